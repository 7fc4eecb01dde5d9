"""Programs compared: with other ones, with other catching calls, from limit to limit."""
