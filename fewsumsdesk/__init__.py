"""Few sums to a number."""
