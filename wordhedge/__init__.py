"""Wordhedge: words in a hedge of letters."""
