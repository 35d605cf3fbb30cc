"""Explanations and deletion for recommendations."""
