"""Descriptions of what is to be shown."""
