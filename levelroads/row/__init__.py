"""Rows: power series in q, and those that the doings tell."""
