"""Counting in snap pools: signs of words, rainbows, names by order."""
