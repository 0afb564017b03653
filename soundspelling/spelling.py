"""What letters sound like by the rules of a table."""

from soundspelling.rules import MOST_LETTERS


def spelled(table, letters):
    """Give the sounds of the letters, told till none is left."""
    sounds = []
    left = list(letters)
    while left:
        rule = longest_rule(table, left)
        if rule is None:
            sounds.append(left[0])
            left = left[1:]
        else:
            sounds.extend(rule.sounds)
            left = list(rule.back) + left[len(rule.letters):]
    return sounds


def longest_rule(table, left):
    """Give the rule with the most letters that the row begins with, or None."""
    beginning = tuple(left[:MOST_LETTERS])
    while beginning:
        if beginning in table:
            return table[beginning]
        beginning = beginning[:-1]
    return None
