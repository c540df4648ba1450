"""A desk that says times at once, for good."""
