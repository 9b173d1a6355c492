"""Touchpin: least pins that touch every piece of a text."""
