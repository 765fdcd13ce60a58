"""Time and cost of processes."""
