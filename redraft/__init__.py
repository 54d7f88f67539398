"""Redraft: what changed between two texts of words."""
