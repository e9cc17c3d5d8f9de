"""Documents as text."""
