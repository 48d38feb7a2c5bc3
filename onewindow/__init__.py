"""One window: who waits how long when persons are served in the order in which they come."""
