"""Tunings: intervals and the equal steps of an octave, told exactly by whole numbers."""
