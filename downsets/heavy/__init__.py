"""Weights of closed lots, costs of line-ups, jumps and deadlines."""
