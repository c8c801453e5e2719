"""A store: houses and a keeper of the same tellings."""
