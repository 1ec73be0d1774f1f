"""Leastreader: what a reader of copies and codes must hold, for all formats of a kind."""
