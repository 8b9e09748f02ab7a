"""Whole matches: acts, effects that are told once, bounds."""
