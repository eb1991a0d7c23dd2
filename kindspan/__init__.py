"""Kindspan: the widest kind of an expression, and runs that never get stuck."""
