"""Levelroads: sums of paths at a level, and one list of integers by several roads."""
