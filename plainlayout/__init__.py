"""Layout as plain text."""
