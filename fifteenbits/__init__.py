"""A guidance computer of fifteen-bit words."""
