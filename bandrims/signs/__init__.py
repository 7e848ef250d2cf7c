"""Sums with signs, and gluings of one rim."""
