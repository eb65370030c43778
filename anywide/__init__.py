"""Anywide: rows of deeds on words of every width."""
