"""Shelves filled up to a mark."""
