"""What measurements tell of the true factors."""
