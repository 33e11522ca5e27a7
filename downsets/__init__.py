"""Downsets: what must come ahead, and the lattice of what can be done first."""
