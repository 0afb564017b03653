"""Lays calls in one list for the program and parts its answers again."""

from soundspelling.speller import answers

BEGIN = [1]
WRITE = [3]

TOO_LONG = [-1]
NO_LETTER = [-3]
NO_CHARACTER = [-3]
NONE = [-5]

RUN_TEXT = "a α\nn ν\nna ξ\nnn ν n\nk κ\nkk σ k\nka η\n"
RUN_WRITTEN = "a α\nk κ\nka η\nkk σ k\nn ν\nna ξ\nnn ν n\n"


def octets(text):
    """The bytes of a text, as a list; bytes and lists stay what they are."""
    if isinstance(text, str):
        return list(text.encode("utf-8"))
    return list(text)


def numbers(row):
    """The numbers of a row's characters; lists stay what they are."""
    if isinstance(row, str):
        return [ord(sign) for sign in row]
    return list(row)


def read(text):
    row = octets(text)
    return [2, len(row)] + row


def with_row(call, row):
    row = numbers(row)
    return [call, len(row)] + row


def spell(row):
    return with_row(4, row)


def sure(row):
    return with_row(5, row)


def left_open(row):
    return with_row(6, row)


def told_for(row):
    return with_row(7, row)


def parted(told):
    """The answers, each by itself."""
    parts = []
    place = 0
    while place < len(told):
        size = told[place]
        part = told[place + 1:place + 1 + size]
        if len(part) != size or size < 1:
            raise ValueError("the answers are not laid as the document says")
        parts.append(part)
        place += 1 + size
    return parts


def told(*calls):
    """What the calls, made one behind another on a new object, answer."""
    laid = []
    for call in calls:
        laid.extend(call)
    return parted(answers(laid))


def sounds(row):
    """The answer of spell that tells these sounds."""
    row = numbers(row)
    return [len(row)] + row


def letters(row):
    """The answer of open or type that tells these letters."""
    row = numbers(row)
    return [len(row)] + row


def sure_told(heard, open_count):
    """The answer of sure that tells these sounds and how many letters are open."""
    heard = numbers(heard)
    return [len(heard), open_count] + heard


def text_told(text):
    """The answer of write that tells this text."""
    row = octets(text)
    return [len(row)] + row


def fault(line, kind):
    """The answer of read that tells this fault."""
    return [-2, line, kind]
