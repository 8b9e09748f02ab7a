"""Integers, numbers and luck: what all else is built on."""
