"""The calls on one house, read from a list of whole numbers and answered in one."""

from modedpieces.session import Session

BEGIN = 1
RULE = 2
TEXT = 3
PIECES = 4
EDIT = 5
AT = 6
WORDS = 7
LONGEST = 8
TIGHT = 9

# Of each call, by its number: how many whole numbers it has, and how many rows behind them.
FORMS = {1: (1, 0), 2: (4, 1), 3: (0, 1), 4: (0, 0), 5: (2, 1), 6: (1, 0), 7: (0, 0), 8: (1, 1), 9: (0, 1)}


def answers(calls):
    """Answer the calls in this list, one behind another, about a house that is new.

    Of each call the list that is given back has how many numbers are answered, then these.
    """
    session = Session()
    told = []
    at = 0
    while at < len(calls):
        call = calls[at]
        numbers, rows = FORMS[call]
        start = at + 1 + numbers
        values = calls[at + 1:start]
        row = []
        at = start
        if rows == 1:
            at = start + 1 + calls[start]
            row = calls[start + 1:at]
        answer = answer_call(session, call, values, row)
        told.append(len(answer))
        told.extend(answer)
    return told


def answer_call(session, call, values, row):
    """Give the list of what is answered of one call."""
    if call == BEGIN:
        return session.begin(values[0])
    if call == RULE:
        return session.add_rule(values, row)
    if call == TEXT:
        return session.set_text(row)
    if call == PIECES:
        return session.tell_pieces()
    if call == EDIT:
        return session.edit(values[0], values[1], row)
    if call == AT:
        return session.tell_at(values[0])
    if call == WORDS:
        return session.tell_words()
    if call == LONGEST:
        return session.tell_longest(values[0], row)
    return session.write_tight(row)
