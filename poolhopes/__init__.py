"""Poolhopes: who can still win a prediction pool."""
