"""Roundknown: loops whose whole future is known."""
