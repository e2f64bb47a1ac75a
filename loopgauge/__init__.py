"""Loops over whole numbers, and how many turns they take at most."""
