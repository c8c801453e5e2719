"""Shapes that move, and what they do at every moment."""
