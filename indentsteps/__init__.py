"""Indenting and outdenting selected lines of a text."""
