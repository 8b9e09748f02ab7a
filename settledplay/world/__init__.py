"""Worlds and their things."""
