"""What is known about all limits at once."""
