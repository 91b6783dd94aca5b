"""Roofpost: wishes told from house to house, and letters led by them."""
