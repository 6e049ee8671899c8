"""A desk with pools, tasks and rules, and claims about them that hold."""
