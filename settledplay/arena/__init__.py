"""Boxes in an arena."""
