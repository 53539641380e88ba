"""The planner: what must be written to lead from rows to other rows, and in which order."""
