"""Reachrows: books of code whose rows reach so far and no farther."""
