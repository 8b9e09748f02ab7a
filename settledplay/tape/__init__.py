"""Tapes: a game and a row, kept as a text."""
