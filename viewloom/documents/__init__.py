"""Documents, operations and patches."""
