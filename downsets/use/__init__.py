"""Orders that are changed step by step."""
