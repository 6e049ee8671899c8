"""Plays: rounds of one pool in rounds of another one."""
