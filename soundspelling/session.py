"""The object: it keeps a table and answers calls.

Each answer is a list: the number that is answered, then what is told besides.
"""

from soundspelling.letters import all_characters, all_letters
from soundspelling.shortest import letters_for
from soundspelling.spelling import beginnings, spelled, spelled_so_far
from soundspelling.tabletext import fill_table, written
from soundspelling.tree import tree_of

MOST_BYTES = 65536
MOST_ROW_LETTERS = 256
MOST_ROW_SOUNDS = 16

NOT_REFUSED = 0
TOO_LONG = -1
FAULTY_TEXT = -2
WRONG_NUMBER = -3
NONE_SOUNDS_SO = -5


class Session:
    """A table of rules, at first without any, and the calls on it."""

    def __init__(self):
        self.table = {}
        self.tree = None

    def begin(self):
        """Have no rules from here on."""
        self.change_table({})
        return [0]

    def read(self, text):
        """Take the text's table in place of the one that is kept."""
        if len(text) > MOST_BYTES:
            return [TOO_LONG]
        # Filled aside, so that a faulty text leaves the kept table as it was.
        table = {}
        fault = fill_table(table, text)
        if fault:
            return [FAULTY_TEXT] + fault
        self.change_table(table)
        return [len(table)]

    def write(self):
        """Tell the text of the table."""
        text = written(self.table)
        return [len(text)] + text

    def spell(self, letters):
        """Tell the sounds of the letters."""
        refusal = letters_refusal(letters)
        if refusal != NOT_REFUSED:
            return [refusal]
        sounds = spelled(self.table, letters)
        return [len(sounds)] + sounds

    def sure(self, letters):
        """Tell what is sure of the letters while more may come, and how many are open."""
        refusal = letters_refusal(letters)
        if refusal != NOT_REFUSED:
            return [refusal]
        spelling = spelled_so_far(self.table, beginnings(self.table), letters)
        return [len(spelling.sounds), len(spelling.left)] + spelling.sounds

    def left_open(self, letters):
        """Tell which letters are open while more may come."""
        refusal = letters_refusal(letters)
        if refusal != NOT_REFUSED:
            return [refusal]
        spelling = spelled_so_far(self.table, beginnings(self.table), letters)
        return [len(spelling.left)] + list(spelling.left)

    def told_for(self, sounds):
        """Tell the shortest row of letters, of several the first in order, that has these sounds."""
        refusal = sounds_refusal(sounds)
        if refusal != NOT_REFUSED:
            return [refusal]
        letters = letters_for(self.tree_of_table(), sounds)
        if letters is None:
            return [NONE_SOUNDS_SO]
        return [len(letters)] + letters

    def change_table(self, table):
        """Keep this table from here on."""
        self.table = table
        self.tree = None

    def tree_of_table(self):
        """Give the table's tree; it's built when it is first asked for, as most calls need none."""
        if self.tree is None:
            self.tree = tree_of(self.table)
        return self.tree


def letters_refusal(letters):
    """Give the refusal of a row of letters; a row too long is not looked at."""
    if len(letters) > MOST_ROW_LETTERS:
        return TOO_LONG
    if not all_letters(letters):
        return WRONG_NUMBER
    return NOT_REFUSED


def sounds_refusal(sounds):
    """Give the refusal of a row of sounds; a row too long is not looked at."""
    if len(sounds) > MOST_ROW_SOUNDS:
        return TOO_LONG
    if not all_characters(sounds):
        return WRONG_NUMBER
    return NOT_REFUSED
