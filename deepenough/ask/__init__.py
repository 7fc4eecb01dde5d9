"""What runs of a program show."""
