"""The places of a call: its five pockets, and the shelf of its side."""

PLACES = ("a", "b", "c", "d", "e", "shelf")
# The pocket that no name of a said body has.
SPARE = 4
SHELF = 5


def place_of(word):
    """Tell the number of the pocket or the shelf that is called so, or None."""
    return PLACES.index(word) if word in PLACES else None


def pocket_of(word):
    """Tell the number of the pocket that is called so, or None."""
    place = place_of(word)
    return None if place == SHELF else place
