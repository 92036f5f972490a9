"""Ironships: the compass of an iron ship, for all headings at once."""
