"""Sootring: coals of six-sided cells, and the pairings of their corners."""
