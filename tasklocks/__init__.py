"""Tasks with deadlines and locks, on one processor."""
