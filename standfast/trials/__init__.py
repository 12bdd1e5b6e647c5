"""Trials: one true frame, step by step."""
