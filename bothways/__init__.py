"""Bothways: a small machine that runs forth and back."""
