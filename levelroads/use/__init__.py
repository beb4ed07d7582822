"""A bench on which sums of paths are kept and changed."""
