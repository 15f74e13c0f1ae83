"""Sackset: great sets of whole numbers, kept in sacks of three kinds."""
