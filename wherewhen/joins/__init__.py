"""Shares of steps, and joins of things that meet."""
