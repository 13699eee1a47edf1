"""A string of beads, told from how it rings."""
