"""How the objects of a heap lie in tables."""
