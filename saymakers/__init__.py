"""Saymakers: words of one's own and their rules."""
