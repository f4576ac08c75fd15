"""Histories of calls against a second telling of the words, written apart from the program."""

import itertools
import random
import unittest

from asking import TOP, add, ask, begin, count, drop, line

FEW_CALLS = [begin(0), begin(1), begin(3), begin(6), add(0, 1), add(2, 0), add(1, 1), add(3, 0),
             drop(0), drop(1), drop(8), line(0), line(1), line(8), count()]


class Told:
    """The net as a count of towns, or None, and a dict of the lines that there are."""

    def __init__(self):
        self.n = None
        self.lines = {}

    def answer(self, call):
        name, numbers = ["begin", "add", "drop", "line", "count"][call[0]], call[1:]
        if name != "begin" and self.n is None:
            return [-4]
        return getattr(self, name)(*numbers)

    def begin(self, n):
        if n not in range(1, 6):
            return [-1]
        self.n, self.lines = n, {}
        return [0]

    def add(self, u, v):
        if not {u, v} <= set(range(self.n)) or len({u, v}) == 1:
            return [-1]
        free = sorted(set(range(8)) - set(self.lines))
        if not free:
            return [-2]
        self.lines[free[0]] = [u, v]
        return [free[0]]

    def drop(self, e):
        if e > 7:
            return [-1]
        return [-3] if self.lines.pop(e, None) is None else [0]

    def line(self, e):
        if e > 7:
            return [-1]
        return self.lines.get(e, [-3])

    def count(self):
        return [len(self.lines)]


def drawn_call(draw):
    town = lambda: draw.choice([0, 1, 2, 3, 4, 5, draw.randrange(5), TOP])
    number = lambda: draw.choice(list(range(9)) + [TOP])
    kind = draw.choices(["begin", "add", "drop", "line", "count"], [1, 14, 5, 6, 3])[0]
    if kind == "begin":
        return begin(draw.choice([0, 1, 2, 3, 4, 5, 6, TOP]))
    if kind == "add":
        return add(town(), town())
    if kind == "drop":
        return drop(number())
    return line(number()) if kind == "line" else count()


class Histories(unittest.TestCase):
    def compare(self, calls):
        told = Told()
        self.assertEqual(ask(*calls), [told.answer(call) for call in calls], calls)

    def test_every_short_history(self):
        for length in range(1, 5):
            for calls in itertools.product(FEW_CALLS, repeat=length):
                self.compare(calls)

    def test_long_histories(self):
        draw = random.Random(1)
        for history in range(2000):
            self.compare([begin(draw.randrange(2, 6))] + [drawn_call(draw) for step in range(29)])

    def test_long_histories_that_may_begin_late(self):
        draw = random.Random(2)
        for history in range(1000):
            self.compare([drawn_call(draw) for step in range(30)])


if __name__ == "__main__":
    unittest.main()
