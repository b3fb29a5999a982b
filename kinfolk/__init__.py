"""Families in a text: persons and their parents, checked for what can't be."""
