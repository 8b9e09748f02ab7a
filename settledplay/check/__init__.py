"""Prints of worlds, and seats that stray from the row."""
