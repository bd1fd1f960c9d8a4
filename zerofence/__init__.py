"""Curves of whole numbers, and where they come to nought."""
