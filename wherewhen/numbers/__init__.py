"""Exact numbers: fractions, spells of moments, steps over a stretch."""
