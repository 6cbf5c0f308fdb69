"""A beach kept, whole: beachkept.beach.answers answers calls about a watched beach."""
