"""Counts by recursions and by formulas."""
