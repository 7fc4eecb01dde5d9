"""What a program can do, and with how few steps."""
