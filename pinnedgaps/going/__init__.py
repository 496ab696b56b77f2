"""Walks of whole lots: the redraw walk, its gaps, and exchanges."""
