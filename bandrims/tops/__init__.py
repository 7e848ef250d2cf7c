"""The greatest parts of the formulas of counts."""
