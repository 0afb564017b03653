"""The tree of all beginnings of rules: what becomes of open letters by the letter that comes."""

from soundspelling.letters import GREATEST_LETTER, LEAST_LETTER
from soundspelling.spelling import Spelling, beginnings, spelled, spelled_so_far


class Beginning:
    """Letters that are open.

    `ended` are their sounds if no letter comes any more. `ways` has, by the letter
    that comes, the spelling with this letter. A letter that isn't there leads on from
    what is left of `given_up`: there the open letters are spelled without it.
    """

    def __init__(self, ended, given_up):
        self.ended = ended
        self.given_up = given_up
        self.ways = {}


def tree_of(table):
    """Give the beginnings of the table's rules, each by its letters.

    The empty one has a way for every letter, so what is given up ends there at last.
    """
    begun = beginnings(table)
    tree = {}
    for letters in begun:
        tree[letters] = Beginning(spelled(table, letters), spelled_without_more(table, begun, letters))
    for letter in range(LEAST_LETTER, GREATEST_LETTER + 1):
        tree[()].ways[letter] = spelled_so_far(table, begun, (letter,))
    for letters in table:
        for size in range(1, len(letters)):
            way = spelled_so_far(table, begun, letters[:size + 1])
            tree[letters[:size]].ways[letters[size]] = way
    return tree


def spelled_without_more(table, begun, letters):
    """Give the spelling of open letters when no rule goes on with the letter that comes.

    What is taken of them then is the same for all such letters: the longest rule
    among the open letters alone.
    """
    spelling = Spelling(letters)
    if letters:
        spelling.take(table)
    spelling.take_what_is_sure(table, begun)
    return spelling
