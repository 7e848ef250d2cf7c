"""Bandrims: webs of bands with told rims, counted by one polynomial for all lengths."""
