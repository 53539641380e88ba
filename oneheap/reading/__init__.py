"""Reading: what a session knows of its base, and for what it asks together."""
