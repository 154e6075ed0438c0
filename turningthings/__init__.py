"""Things that turn one another."""
