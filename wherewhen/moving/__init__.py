"""Shapes that move: lines, rows, and when rows meet."""
