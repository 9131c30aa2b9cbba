"""Stepping stones: how people get over a river with dry feet."""
