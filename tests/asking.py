"""Calls written by their names, and answers taken apart, for the tests."""

from lossnets.nets import answers

TOP = 2 ** 160 - 1


def begin(n):
    return [0, n]


def add(u, v):
    return [1, u, v]


def drop(e):
    return [2, e]


def line(e):
    return [3, e]


def count():
    return [4]


def oneway():
    return [5]


def mend():
    return [6]


def check_oneway(way):
    return [7, len(way)] + way


def check_side(side):
    return [8, len(side)] + side


def check_sides(labels, k):
    return [9, k, len(labels)] + labels


def joined(calls):
    return [number for call in calls for number in call]


def taken_apart(told):
    rows = []
    place = 0
    while place < len(told):
        behind = place + 1 + told[place]
        if told[place] < 1 or behind > len(told):
            raise AssertionError(f"no row of answers: {told!r} at {place}")
        rows.append(told[place + 1:behind])
        place = behind
    return rows


def ask(*calls):
    # The document bounds a list of calls: no test is to ask for more than it promises.
    if not 1 <= len(calls) <= 30 or len(joined(calls)) > 400:
        raise AssertionError(f"no list of calls: {calls!r}")
    return taken_apart(answers(joined(calls)))


def net_of(n, lines):
    return [begin(n)] + [add(u, v) for u, v in lines]


def last_answer(n, lines, call):
    return ask(*net_of(n, lines), call)[-1]


def all_lines():
    return [line(e) for e in range(8)]
