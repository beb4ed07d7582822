"""The pairs of a level."""
