"""Settledplay: a game engine whose worlds are the same wherever they are played."""
