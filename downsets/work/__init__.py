"""Rows of places for two workers."""
