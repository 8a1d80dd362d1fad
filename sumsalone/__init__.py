"""Sumsalone: what sums alone tell of tables, webs and tournaments."""
