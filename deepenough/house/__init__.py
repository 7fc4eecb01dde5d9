"""A project: a program with promises about it."""
