"""Webs with lengths, and the sides of polygons they are glued of."""
