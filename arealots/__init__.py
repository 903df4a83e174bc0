"""Arealots: all moves and areas that a few buttons make."""
