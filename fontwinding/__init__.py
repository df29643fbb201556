"""Fontwinding: a compiler for bitmap fonts whose pixels are winding numbers."""
