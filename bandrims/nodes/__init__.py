"""Pieces joined at nodes."""
