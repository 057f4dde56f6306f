"""Allcells: statements about all cells of arrays."""
