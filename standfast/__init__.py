"""Standfast: frames that stand whatever comes."""
