"""Completers of a field over two letters, read from what they put in."""
