"""Webs of bands."""
