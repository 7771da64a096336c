"""Losing games that win when they are played by turns."""
