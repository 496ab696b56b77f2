"""A desk with fields, pledges on them, and changes that can be taken back."""
