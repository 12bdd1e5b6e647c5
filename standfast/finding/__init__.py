"""What the program finds: forces, falls, and papers."""
