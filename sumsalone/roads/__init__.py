"""Things carried along by moves, and joined by exchanges."""
