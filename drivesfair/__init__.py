"""Who drives today: a car that some share, and whose turn it is to drive it."""
