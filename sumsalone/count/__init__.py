"""How many things have some sums, and which."""
