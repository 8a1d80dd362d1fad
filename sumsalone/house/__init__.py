"""Things that change."""
