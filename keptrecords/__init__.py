"""What may be kept of people, and for how long."""
