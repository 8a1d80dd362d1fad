"""Things that have a part with other sums."""
