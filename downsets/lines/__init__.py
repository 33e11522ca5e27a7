"""Orders told by few line-ups."""
