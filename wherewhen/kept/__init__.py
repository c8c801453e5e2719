"""Questions that are kept, with their answers as they come to be."""
