"""Differences of worlds, and rings of kept worlds."""
