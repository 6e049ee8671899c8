"""Machines: threads with finitely many states that work for any number of rounds."""
