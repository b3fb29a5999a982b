"""Families in a text: persons and their parents, checked for what can't be; how two of them are related."""
