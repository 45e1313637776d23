"""Rights that people hand on by policies, decided for all deeds."""
