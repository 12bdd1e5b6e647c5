"""Elastic answers of structures, and what true ones can come to."""
