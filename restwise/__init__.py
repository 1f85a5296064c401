"""Restwise: handlers that run the rest never, once or again."""
