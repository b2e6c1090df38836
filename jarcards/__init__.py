"""Jarcards: orders over jars, followed as they stand or run as cards."""
