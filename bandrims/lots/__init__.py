"""Lots of webs."""
