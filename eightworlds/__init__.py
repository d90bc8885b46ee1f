"""Eightworlds: polygons cut into pieces, and all that is one with them."""
