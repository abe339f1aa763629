"""Closerworks: the least closed lot around each lot of things."""
