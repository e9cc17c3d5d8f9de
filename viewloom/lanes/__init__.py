"""Lanes and their schedule."""
