"""What is seen near a pin: local walks, their bounds, and how bounds trickle down."""
