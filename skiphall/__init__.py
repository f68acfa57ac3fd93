"""Skiphall: a house of questionnaires, from the sheet to the told table."""
