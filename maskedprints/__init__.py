"""Prints that are made under masks."""
