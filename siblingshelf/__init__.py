"""Values on the shelves of several keepers, each beside those that it has not seen."""
