"""Foretask: sequential programs whose tasks run before their turn."""
