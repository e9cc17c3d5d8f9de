"""Values, and the expressions that have them."""
