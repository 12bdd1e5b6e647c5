"""Frames and their texts."""
