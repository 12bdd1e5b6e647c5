"""Structures: what is calculated with."""
