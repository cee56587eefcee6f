"""Leapfolk: persons who leap over one another, and what never changes."""
