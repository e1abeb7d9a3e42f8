"""A look at a log by itself: whether calls, handles and things go by their words."""

from pactford.books import Books


def is_ledger(pacts, log):
    """Tell whether a list of tuples may be the log of a world of some pacts."""
    if not isinstance(log, list):
        return False
    books = Books(pacts)
    for entry in log:
        if not books.takes(entry):
            return False
    return books.is_even()
