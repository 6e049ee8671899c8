"""Tasks of two threads, for every number of rounds."""
