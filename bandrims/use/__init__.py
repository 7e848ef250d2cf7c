"""A desk with webs."""
