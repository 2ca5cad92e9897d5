"""Saylore: how written words are said, by ordered rules and exceptions."""
