"""The tests of bandrims."""
