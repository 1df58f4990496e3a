"""The bounds that books and collections have in common."""

MOST_CHARACTERS = 256
ALL_STATES = 18446744073709551615
