"""What everything else rests on: exact numbers, and tables without a minus."""
