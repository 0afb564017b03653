"""Strict UTF-8: the shortest form of each character, and characters alone."""

from soundspelling.letters import is_character

# Of each form, by how many bytes it has: the least first byte, the one where
# the first bytes of the next form begin, and the least character it may hold.
FORMS = (
    (0x00, 0x80, 0x00),
    (0xC0, 0xE0, 0x80),
    (0xE0, 0xF0, 0x800),
    (0xF0, 0xF8, 0x10000),
)
FOLLOWING = 0x80
FOLLOWING_COUNT = 0x40


def decoded(octets):
    """Give the characters that the bytes hold, or None if they are no UTF-8."""
    row = []
    place = 0
    while place < len(octets):
        size = form_size(octets[place])
        number = form_value(octets[place:place + size])
        if number is None:
            return None
        row.append(number)
        place += size
    return row


def form_size(first):
    """Give how many bytes a form with this first byte has; 0 if none begins so."""
    for before, form in enumerate(FORMS):
        if form[0] <= first < form[1]:
            return before + 1
    return 0


def form_value(octets):
    """Give the character of one form, or None if the bytes are no whole form."""
    if not octets or len(octets) != form_size(octets[0]):
        return None
    form = FORMS[len(octets) - 1]
    number = octets[0] - form[0]
    for octet in octets[1:]:
        if not FOLLOWING <= octet < FOLLOWING + FOLLOWING_COUNT:
            return None
        number = number * FOLLOWING_COUNT + octet - FOLLOWING
    if number < form[2] or not is_character(number):
        return None
    return number


def encoded(row):
    """Give the bytes that hold the characters."""
    octets = []
    for number in row:
        octets.extend(form_of(number))
    return octets


def form_of(number):
    """Give the shortest form of a character."""
    size = len([form for form in FORMS if form[2] <= number])
    following = []
    for step in range(size - 1):
        following.append(FOLLOWING + number % FOLLOWING_COUNT)
        number = number // FOLLOWING_COUNT
    return [FORMS[size - 1][0] + number] + list(reversed(following))
