"""Objects that two threads share: kinds, plans, courses."""
