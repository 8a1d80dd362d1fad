"""From things of one kind to things of another one, and from sums to more even ones."""
