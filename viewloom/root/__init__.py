"""Roots, which show a component."""
