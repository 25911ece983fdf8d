"""Chords, their names, and the way through keys."""
