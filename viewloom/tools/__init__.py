"""Tools: reasons of renderings, texts of calls, and what fits another program."""
