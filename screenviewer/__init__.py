"""A viewer of far screens."""
