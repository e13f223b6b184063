"""Open queueing networks with product form, computed in exact fractions."""
