"""Schemas: kinds of objects, their fields and keys."""
