"""Gaps to a ring, and the order by them."""
