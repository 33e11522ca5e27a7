"""Maps into a line, and signs."""
