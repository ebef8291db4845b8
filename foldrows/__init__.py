"""Foldrows: nested things laid out on rows of a width."""
