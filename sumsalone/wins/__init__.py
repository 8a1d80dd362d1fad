"""Tournaments: what scores alone tell."""
