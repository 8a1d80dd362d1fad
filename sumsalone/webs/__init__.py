"""Webs by their rows."""
