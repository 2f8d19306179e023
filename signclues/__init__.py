"""Finds what the unknown signs of a script may stand for."""
