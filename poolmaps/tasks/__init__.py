"""Tasks, rules that do them, and the search for rules."""
