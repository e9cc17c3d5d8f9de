"""The checks of programs that were read."""
