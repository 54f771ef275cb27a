"""Relations found, and which follow from which."""
