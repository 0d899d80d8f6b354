"""Sounds of texts of signs."""
