"""What the doings do to sums of paths."""
