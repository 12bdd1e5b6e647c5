"""Linear equations."""
