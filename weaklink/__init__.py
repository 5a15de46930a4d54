"""Cost-complexity pruning of rooted trees."""
