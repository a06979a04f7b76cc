"""Nestnote: numbers, words and lists within lists on one line."""
