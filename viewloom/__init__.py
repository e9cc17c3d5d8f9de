"""Viewloom: interfaces whose components are text."""
