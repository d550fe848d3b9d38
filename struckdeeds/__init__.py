"""Struckdeeds: books of deeds of which any may be struck out."""
