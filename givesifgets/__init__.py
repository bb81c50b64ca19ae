"""Givesifgets: a house in which people give in rings, so that nobody gives in vain."""
