"""Holes mended: a piece of net whose bars are torn and mended."""
