"""Texts of values, and a shell with commands."""
