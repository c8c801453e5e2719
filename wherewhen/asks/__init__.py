"""Questions, and what each is answered at a moment."""
