"""Cuts of all places among houses, and the region of each."""
