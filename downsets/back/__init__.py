"""From lots back to orders, and orders that are lattices."""
