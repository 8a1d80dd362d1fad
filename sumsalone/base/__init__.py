"""Words, and the things that sums are told of."""
