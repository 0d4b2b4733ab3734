"""Stacks of sacks that rot while they wait for one pair of hands."""
