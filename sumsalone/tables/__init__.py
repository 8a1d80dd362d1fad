"""Tables by their sums."""
