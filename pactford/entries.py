"""The forms of the tuples of a log."""

from pactford.kinds import is_whole

# By its word the parts of a tuple: numbers of calls and things, handles, texts;
# in capitals, where there may be None.
FORMS = {
    "made": "nHn", "used": "nhn", "freed": "nHn", "entered": "ntn", "lent": "nHnnh", "gave": "nHnnh",
    "ended": "ntHN", "passed": "nt", "got": "nHn", "caught": "ntHN", "broke": "nt",
}


def has_form(entry):
    """Tell whether something has the form of a tuple of a log."""
    if not isinstance(entry, tuple) or not entry or not isinstance(entry[0], str):
        return False
    form = FORMS.get(entry[0])
    if form is None or len(entry) != len(form) + 1:
        return False
    return all([_fits(sign, part) for sign, part in zip(form, entry[1:])])


def _fits(sign, part):
    """Tell whether a part is as its sign in a form tells."""
    if sign in ("H", "N") and part is None:
        return True
    if sign in ("h", "H"):
        return isinstance(part, tuple) and len(part) == 2 and all([is_whole(one) for one in part])
    if sign == "t":
        return isinstance(part, str)
    return is_whole(part) and part >= 0
