"""Trees of walks, which tell the shares of a field, and cut trees, which enclose them."""
