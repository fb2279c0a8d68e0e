"""Shapes of letters: where a letter's ink must be, where it must not, and how many points may be wrong."""
