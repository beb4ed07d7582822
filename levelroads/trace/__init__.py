"""Traces of doings, by counting binary forms."""
