"""Papers about structures, and whether they hold."""
