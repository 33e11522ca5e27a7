"""Words, orders and lots."""
