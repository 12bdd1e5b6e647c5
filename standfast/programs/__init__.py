"""Conditions on unknowns, and values that meet them."""
