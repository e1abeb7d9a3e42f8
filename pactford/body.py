"""A helper's body as it was read."""

from pactford.rows import MOST_ROWS, read_rows
from pactford.said import read_said
from pactford.turned import turn


class Body:
    """The text of a body; its rows, their texts and what they belong to; its statements where it is said."""

    def __init__(self, pacts, name, text):
        self.text = text
        self.many = 0
        self.statements = None
        if text.startswith("("):
            self.many, self.statements = read_said(pacts, name, text)
            self.texts, self.numbers = turn(pacts, name, self.many, self.statements)
            most = len(self.texts)
        else:
            self.texts = text.split("\n")
            self.numbers = list(range(len(self.texts)))
            most = MOST_ROWS
        self.steps = read_rows(pacts, name, self.texts, most)
