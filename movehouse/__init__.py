"""Movehouse: a desk that moves between two houses, key by key."""
