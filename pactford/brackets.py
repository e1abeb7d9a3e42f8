"""Bracket texts: lists of words and of lists, one blank between two parts."""

# What the sign ahead was: the begin or the end of a list, a sign of a word, a blank.
BEGIN = 0
END = 1
WORD = 2
BLANK = 3


def read_brackets(text):
    """Tell the lists that stand in text, one blank between two; None where it is no such text."""
    # The lists that have begun and not ended, the innermost one last; a text
    # may have them deeper than functions may call themselves.
    begun = [[]]
    last = BLANK
    for sign in text:
        if sign == "(":
            last = _begin(begun, last)
        elif sign == ")":
            last = _end(begun, last)
        elif sign == " ":
            last = BLANK if last in (WORD, END) else None
        else:
            last = _spell(begun, last, sign)
        if last is None:
            return None
    return begun[0] if len(begun) == 1 and last == END else None


def _begin(begun, last):
    """Begin a list; tell None where none may begin."""
    if last not in (BEGIN, BLANK):
        return None
    begun[-1].append([])
    begun.append(begun[-1][-1])
    return BEGIN


def _end(begun, last):
    """End the innermost list; tell None where it may not end."""
    if last == BLANK or len(begun) == 1:
        return None
    begun.pop()
    return END


def _spell(begun, last, sign):
    """Put one more sign to a word; tell None where no word may stand."""
    if last == END or len(begun) == 1 or sign == "\n":
        return None
    if last == WORD:
        begun[-1][-1] += sign
    else:
        begun[-1].append(sign)
    return WORD
