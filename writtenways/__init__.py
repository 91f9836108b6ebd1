"""Levels of a text that is written in two directions."""
