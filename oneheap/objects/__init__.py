"""Things, pictures, and views with edits laid on them."""
