"""Puzzles: outputs for places that have to fit together."""
