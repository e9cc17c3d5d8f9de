"""The words of programs: tokens, grammar and canonical text."""
