"""Weighted lots: lots of one size with weights, and the ways to make them."""
