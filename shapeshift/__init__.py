"""Old and new programs on one store, each by the shape that it knows."""
