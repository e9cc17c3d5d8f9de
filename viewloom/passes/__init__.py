"""Passes, which make trees of instances."""
