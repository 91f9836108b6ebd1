"""Directions: levels of a text that is written in two directions, and its lines as they're seen."""
