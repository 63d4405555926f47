"""Restlots: numbers whose rests lie in told lots."""
