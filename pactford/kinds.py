"""What whole numbers, sides and names are, for all files of the package."""

LONGEST_NAME = 8


def is_whole(thing):
    """Tell whether thing is an int that is no truth."""
    return isinstance(thing, int) and not isinstance(thing, bool)


def is_side(thing):
    """Tell whether thing is one of the two sides."""
    return is_whole(thing) and thing in (0, 1)


def is_name(thing):
    """Tell whether thing is a text of one to eight small letters."""
    if not isinstance(thing, str) or not 1 <= len(thing) <= LONGEST_NAME:
        return False
    return all(["a" <= sign <= "z" for sign in thing])
