"""Tailranks: the order of the tails of a word."""
