"""Objects carried between neighbouring versions, and what is lost on the way."""
