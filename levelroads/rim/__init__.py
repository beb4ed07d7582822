"""Fractions and the rims of a level."""
