"""What a limit on the depth of calls changes, for all limits."""
