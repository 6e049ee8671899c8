"""What threads can do together when some are not heard."""
