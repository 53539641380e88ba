"""Programs of several versions of a schema on one heap of objects."""
