"""Binary quadratic forms."""
