"""The line of versions, and the heap with one picture for each of them."""
