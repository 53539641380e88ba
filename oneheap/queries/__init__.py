"""Queries: their texts and what they ask."""
