"""Manyshaped: systems of any shape, and when they behave alike."""
