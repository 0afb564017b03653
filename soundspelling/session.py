"""The object: it keeps a table and answers calls.

Each answer is a list: the number that is answered, then what is told besides.
"""

from soundspelling.letters import all_letters
from soundspelling.spelling import spelled
from soundspelling.tabletext import fill_table, written

MOST_BYTES = 65536
MOST_ROW_LETTERS = 256

NOT_REFUSED = 0
TOO_LONG = -1
FAULTY_TEXT = -2
NO_LETTER = -3


class Session:
    """A table of rules, at first without any, and the calls on it."""

    def __init__(self):
        self.table = {}

    def begin(self):
        """Have no rules from here on."""
        self.table = {}
        return [0]

    def read(self, text):
        """Take the text's table in place of the one that is kept."""
        if len(text) > MOST_BYTES:
            return [TOO_LONG]
        # Filled aside, so that a faulty text leaves the kept table as it was.
        table = {}
        fault = fill_table(table, text)
        if fault:
            return [FAULTY_TEXT] + fault
        self.table = table
        return [len(table)]

    def write(self):
        """Tell the text of the table."""
        text = written(self.table)
        return [len(text)] + text

    def spell(self, letters):
        """Tell the sounds of the letters."""
        refusal = letters_refusal(letters)
        if refusal != NOT_REFUSED:
            return [refusal]
        sounds = spelled(self.table, letters)
        return [len(sounds)] + sounds


def letters_refusal(letters):
    """Give the refusal of a row of letters; a row too long is not looked at."""
    if len(letters) > MOST_ROW_LETTERS:
        return TOO_LONG
    if not all_letters(letters):
        return NO_LETTER
    return NOT_REFUSED
