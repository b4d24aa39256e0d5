"""Writes calls as the numbers that the desk takes, and cuts its answers apart."""

from pointgame.desk import answers

LOWEST = -2147483648
HIGHEST = 2147483647


def begin():
    return [0]


def points(g, n):
    return [1, g, n]


def arc(g, x, y, on):
    return [2, g, x, y, on]


def mark(g, m, x, on):
    return [3, g, m, x, on]


def form(slot, sentence):
    codes = codes_of(sentence)
    return [4, slot, len(codes), len(codes)] + codes


def form_without_row(slot, n):
    return [4, slot, n, 0]


def text(slot, most):
    return [5, slot, most]


def rank(slot):
    return [6, slot]


def holds(g, slot):
    return [7, g, slot]


def told():
    return [8]


def reply(side, x, k, lie=()):
    return [9, side, x, k, len(lie), len(lie)] + list(lie)


def reply_without_row(side, x, k, n):
    return [9, side, x, k, n, 0]


def stones(p):
    return [10, p]


def structure(g, size, arcs=(), first=(), second=()):
    """The calls that make a structure: its arcs, the points with mark 0 and those with mark 1."""
    made = [points(g, size)]
    made += [arc(g, x, y, 1) for x, y in arcs]
    made += [mark(g, 0, x, 1) for x in first]
    made += [mark(g, 1, x, 1) for x in second]
    return made


def codes_of(sentence):
    if isinstance(sentence, str):
        return [ord(sign) for sign in sentence]
    return list(sentence)


def in_a_row(calls):
    return [number for call in calls for number in call]


def apart(given):
    """The answers one by one, each as the list of its numbers."""
    found = []
    at = 0
    while at < len(given):
        behind = at + 1 + given[at]
        if given[at] < 1 or behind > len(given):
            raise AssertionError(f"a wrong count at {at} in {given}")
        found.append(given[at + 1:behind])
        at = behind
    return found


def ask(*calls):
    """What the desk answers to each of the calls, a begin put ahead of them and its answer left out."""
    found = apart(answers(in_a_row((begin(),) + calls)))
    if found[0] != [0] or len(found) != len(calls) + 1:
        raise AssertionError(f"{len(calls)} calls behind a begin answered {found}")
    return found[1:]


def last(*calls):
    return ask(*calls)[-1]
