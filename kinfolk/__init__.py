"""Families in a text: persons and their parents, and how they are related."""
