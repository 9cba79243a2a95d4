"""The tests of reachrows."""
