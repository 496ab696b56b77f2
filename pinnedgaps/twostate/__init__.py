"""Fields: places with two states, weights at places and at ties, and the totals of these weights."""
