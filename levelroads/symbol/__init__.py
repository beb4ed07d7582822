"""Symbols, and the sums of paths between fractions."""
