"""Editions compared and read."""
