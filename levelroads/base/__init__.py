"""Integers, ratios, tables of ratios and polynomials."""
