"""What is the same in all things with some sums."""
