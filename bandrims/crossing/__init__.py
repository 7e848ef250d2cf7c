"""Closed rows of webs and their crossings."""
