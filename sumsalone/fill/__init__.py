"""Fillings of shapes, and tables as pairs of them."""
