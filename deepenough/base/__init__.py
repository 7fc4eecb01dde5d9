"""Words, sets of limits, and what else the other parts stand on."""
