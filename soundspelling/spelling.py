"""What letters sound like by the rules of a table, at the end and while more still come."""

from soundspelling.rules import MOST_LETTERS


class Spelling:
    """A row of letters while it is spelled: the sounds told, the letters left."""

    def __init__(self, letters):
        self.sounds = []
        self.left = tuple(letters)

    def take(self, table):
        """Take the longest rule that fits; without one the first letter, as a sound."""
        rule = longest_rule(table, self.left)
        if rule is None:
            self.sounds.append(self.left[0])
            self.left = self.left[1:]
        else:
            self.sounds.extend(rule.sounds)
            self.left = rule.back + self.left[len(rule.letters):]

    def take_what_is_sure(self, table, begun):
        """Take till nothing is left, or a beginning, of which a longer rule may still be meant."""
        while self.left not in begun:
            self.take(table)


def spelled(table, letters):
    """Give the sounds of the letters, told till none is left."""
    spelling = Spelling(letters)
    while spelling.left:
        spelling.take(table)
    return spelling.sounds


def spelled_so_far(table, begun, letters):
    """Give the spelling of letters behind which more may come: its sounds are sure, what is left is open."""
    spelling = Spelling(letters)
    spelling.take_what_is_sure(table, begun)
    return spelling


def beginnings(table):
    """Give all that the rules' letters begin with, shorter than these; nothing is among it, even without rules."""
    begun = {(): True}
    for letters in table:
        for size in range(1, len(letters)):
            begun[letters[:size]] = True
    return begun


def longest_rule(table, left):
    """Give the rule with the most letters that the row begins with, or None."""
    beginning = left[:MOST_LETTERS]
    while beginning:
        if beginning in table:
            return table[beginning]
        beginning = beginning[:-1]
    return None
