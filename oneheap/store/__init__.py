"""The store: tables with columns and keys, and their rows."""
