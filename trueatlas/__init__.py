"""Trueatlas: a map that shows what is."""
