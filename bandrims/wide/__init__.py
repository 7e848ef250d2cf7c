"""Wide surfaces."""
