"""The document's words on spelling and on what is told for sounds, written plainly on texts.

A table is a list of rules, a rule a tuple: its letters, its sounds, what it puts back.
"""

import itertools


def taken_plainly(rules, letters):
    """The sounds told in one step, and the letters that are left then."""
    fitting = [rule for rule in rules if letters.startswith(rule[0])]
    if not fitting:
        return letters[0], letters[1:]
    taken, heard, back = max(fitting, key=lambda rule: len(rule[0]))
    return heard, back + letters[len(taken):]


def spelled_plainly(rules, letters):
    """The sounds of the letters."""
    heard = ""
    while letters:
        more, letters = taken_plainly(rules, letters)
        heard += more
    return heard


def may_go_on(rules, letters):
    """Whether all of the letters are the beginning of some rule's letters and shorter than these."""
    return any(rule[0].startswith(letters) and len(letters) < len(rule[0]) for rule in rules)


def sure_plainly(rules, letters):
    """What is sure of the letters while more may come, and what is open."""
    heard = ""
    while letters and not may_go_on(rules, letters):
        more, letters = taken_plainly(rules, letters)
        heard += more
    return heard, letters


def first_rows(rules, signs, most):
    """Of each row of sounds the shortest row of at most so many letters that has it, of several the first."""
    rows = {}
    for size in range(most + 1):
        for row in itertools.product(sorted(signs), repeat=size):
            rows.setdefault(spelled_plainly(rules, "".join(row)), "".join(row))
    return rows


def first_of_any_size(rules, signs, wanted):
    """The shortest row of letters with these sounds, however long it is, of several the first; None if there is none.

    All rows are tried, one letter longer each time, but those whose sure sounds are others, and of
    those with the same sure sounds and the same open letters all but the first.
    """
    rows = {("", ""): ""}
    seen = set(rows)
    while rows:
        for row in rows.values():
            if spelled_plainly(rules, row) == wanted:
                return row
        longer = {}
        for row in rows.values():
            for sign in sorted(signs):
                state = sure_plainly(rules, row + sign)
                if wanted.startswith(state[0]) and state not in seen:
                    seen.add(state)
                    longer[state] = row + sign
        rows = longer
    return None


def random_row(chance, signs, least, most):
    return "".join([chance.choice(signs) for step in range(chance.randint(least, most))])


def random_rules(chance, signs, sound_signs, most, longest=6):
    """At most so many rules, all with other letters."""
    rules = {}
    for step in range(chance.randint(0, most)):
        letters = random_row(chance, signs, 1, longest)
        rules[letters] = (letters, random_row(chance, sound_signs, 1, 4),
                          random_row(chance, signs, 0, len(letters) - 1))
    return list(rules.values())


def rules_text(rules):
    """The text of a table of these rules."""
    return "".join([" ".join(rule).rstrip() + "\n" for rule in rules])
