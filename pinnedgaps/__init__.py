"""Pinnedgaps: walks that redraw one thing, their gaps, and shares by trees of walks."""
