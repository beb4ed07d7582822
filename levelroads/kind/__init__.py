"""The kinds into which the staying half of a space falls."""
