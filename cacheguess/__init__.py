"""Caches and guesses, followed through a record."""
