"""Shapes that stand still: rings of corners, and places in them."""
