"""What threads know behind the rounds of a word."""
