"""Words: texts as tokens."""
