"""Things and sums as texts, and a shell for them."""
