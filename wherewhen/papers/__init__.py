"""Papers: what a question is answered over a stretch, shown by ends of spells."""
