"""Rankings within bounds, what is sure of them, and why."""
