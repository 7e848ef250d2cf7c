"""Numbers and formulas: what all of bandrims counts with."""
