"""Tiles and blocks, and how many things are in them."""
