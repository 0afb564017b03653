"""The calls on one object, laid in one list of whole numbers."""

from soundspelling.session import Session

BEGIN = 1
READ = 2
WRITE = 3
SPELL = 4
SURE = 5
LEFT_OPEN = 6
WITHOUT_ROW = (BEGIN, WRITE)


def answers(calls):
    """Answer the calls one behind another: of each how many numbers, then these."""
    session = Session()
    told = []
    place = 0
    while place < len(calls):
        call = calls[place]
        place += 1
        row = []
        if call not in WITHOUT_ROW:
            row_end = place + 1 + calls[place]
            row = calls[place + 1:row_end]
            place = row_end
        answer = answer_of(session, call, row)
        told.append(len(answer))
        told.extend(answer)
    return told


def answer_of(session, call, row):
    """Give the answer of one call; of a call without a row the row is empty."""
    if call == BEGIN:
        return session.begin()
    if call == READ:
        return session.read(row)
    if call == WRITE:
        return session.write()
    if call == SPELL:
        return session.spell(row)
    if call == SURE:
        return session.sure(row)
    if call == LEFT_OPEN:
        return session.left_open(row)
    return session.told_for(row)
