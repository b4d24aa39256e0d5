"""Takes a list of calls, one behind another, and gives back their answers the same way."""

from pointgame.table import Table

BEGIN = 0
POINTS = 1
ARC = 2
MARK = 3
FORM = 4
TEXT = 5
RANK = 6
HOLDS = 7
TOLD = 8
REPLY = 9

# By a call's number: how many whole numbers it has ahead of its row, if it has one.
WHOLE_COUNTS = {0: 0, 1: 2, 2: 4, 3: 4, 4: 2, 5: 2, 6: 1, 7: 2, 8: 0, 9: 4, 10: 1}


def has_row(call):
    return call == FORM or call == REPLY


def ask(table, call, wholes, row):
    if call == BEGIN:
        return table.begin()
    if call == POINTS:
        return table.points(wholes[0], wholes[1])
    if call == ARC:
        return table.arc(wholes[0], wholes[1], wholes[2], wholes[3])
    if call == MARK:
        return table.mark(wholes[0], wholes[1], wholes[2], wholes[3])
    if call == FORM:
        return table.form(wholes[0], wholes[1], row)
    if call == TEXT:
        return table.text(wholes[0], wholes[1])
    if call == RANK:
        return table.rank(wholes[0])
    if call == HOLDS:
        return table.holds(wholes[0], wholes[1])
    if call == TOLD:
        return table.told()
    if call == REPLY:
        return table.reply(wholes[0], wholes[1], wholes[2], wholes[3], row)
    # The counts above name no other call but stones.
    return table.stones(wholes[0])


def answers_of(table, calls):
    given = []
    at = 0
    while at < len(calls):
        call = calls[at]
        behind = at + 1 + WHOLE_COUNTS[call]
        wholes = calls[at + 1:behind]
        row = []
        if has_row(call):
            start = behind + 1
            behind = start + calls[start - 1]
            row = calls[start:behind]
        answer = ask(table, call, wholes, row)
        given.append(len(answer))
        given.extend(answer)
        at = behind
    return given


def answers(calls):
    return answers_of(Table(), calls)
