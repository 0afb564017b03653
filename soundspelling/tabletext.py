"""The text of a table: reading it, finding its fault, writing it.

A table is a dict from a rule's letters, a tuple, to the rule.
"""

from soundspelling.letters import all_letters
from soundspelling.rules import MOST_RULES, Rule
from soundspelling.utf8 import decoded, encoded

LINE_END = 0x0A
BLANK = 0x20
DELETE = 0x7F

NO_FAULT = 0
NO_RULE_LINE = 1
WRONG_SIZE = 2
LETTERS_AGAIN = 3
TOO_MANY_LINES = 4


def fill_table(table, text):
    """Put the text's rules into an empty table; give the text's fault, line and kind.

    Of a text without fault an empty list is given; else the table is not to be used.
    """
    lines = parted(text, LINE_END)
    unended = lines.pop()
    for number, line in enumerate(lines):
        parts = parts_of(line)
        kind = fault_kind(parts, table)
        if kind != NO_FAULT:
            return [number, kind]
        rule = rule_of(parts)
        table[rule.letters] = rule
    if unended:
        return [len(lines), NO_RULE_LINE]
    return []


def parted(row, mark):
    """Give what stands before, between and behind the marks of the row."""
    parts = [[]]
    for number in row:
        if number == mark:
            parts.append([])
        else:
            parts[-1].append(number)
    return parts


def parts_of(line):
    """Give the parts of a line; none at all if it is no UTF-8."""
    row = decoded(line)
    if row is None:
        return []
    return parted(row, BLANK)


def fault_kind(parts, table):
    """Give the least kind of fault of a line that comes behind the table's lines."""
    if not is_rule_line(parts):
        return NO_RULE_LINE
    rule = rule_of(parts)
    if not rule.has_right_sizes():
        return WRONG_SIZE
    if rule.letters in table:
        return LETTERS_AGAIN
    if len(table) >= MOST_RULES:
        return TOO_MANY_LINES
    return NO_FAULT


def is_rule_line(parts):
    """Tell whether the parts are a rule's, however long they are."""
    if len(parts) not in (2, 3) or [] in parts:
        return False
    if not all_letters(parts[0]) or not all_written_sounds(parts[1]):
        return False
    return len(parts) == 2 or all_letters(parts[2])


def all_written_sounds(row):
    """Tell whether all of these characters may stand for sounds in a text."""
    return all([number > BLANK and number != DELETE for number in row])


def rule_of(parts):
    """Give the rule that a line's parts tell."""
    back = parts[2] if len(parts) == 3 else []
    return Rule(parts[0], parts[1], back)


def written(table):
    """Give the table's text: a line for each rule, in the order of their letters."""
    text = []
    for letters in sorted(table):
        text.extend(written_line(table[letters]))
    return text


def written_line(rule):
    """Give the bytes of a rule's line."""
    row = list(rule.letters) + [BLANK] + list(rule.sounds)
    if rule.back:
        row = row + [BLANK] + list(rule.back)
    return encoded(row + [LINE_END])
