"""The tests of chordnames."""
