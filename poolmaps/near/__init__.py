"""Near agreement: outputs that differ by one step at most."""
