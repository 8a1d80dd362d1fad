"""Rows of numbers, and the order in which they stand."""
