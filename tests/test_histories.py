"""Histories of calls against a second telling of the words, written apart from the program."""

import itertools
import random
import unittest

from asking import TOP, add, ask, begin, count, drop, joined, line
from asking import check_oneway, check_side, check_sides, mend, oneway
from lossnets.nets import answers
from second import Told

FEW_CALLS = [begin(0), begin(1), begin(3), begin(6), add(0, 1), add(2, 0), add(1, 1), add(3, 0),
             drop(0), drop(1), drop(8), line(0), line(1), line(8), count()]

FEW_OF_ALL = [begin(1), begin(2), begin(3), begin(6), add(0, 1), add(1, 2), add(2, 0), drop(0), line(0), count(),
              oneway(), mend(), check_oneway([]), check_oneway([0, 0]), check_side([0]), check_side([1, 0]),
              check_sides([0, 1], 2), check_sides([0, 1, 2], 2)]

KINDS = ["begin", "add", "drop", "line", "count", "oneway", "mend", "check_oneway", "check_side", "check_sides"]


def drawn_number(draw):
    return draw.choice(list(range(9)) + [draw.randrange(2 ** 160), TOP])


def drawn_row(draw, length, most):
    """Mostly numbers that can hold, of a length that can hold; sometimes not."""
    if draw.random() < 0.15:
        length = draw.randrange(10)
    row = [draw.randrange(most + 1) for place in range(length)]
    if row and draw.random() < 0.15:
        row[draw.randrange(len(row))] = drawn_number(draw)
    return row


def drawn_check(draw, kind, told):
    towns, lines = told.n or 0, len(told.numbered)
    if kind == "check_oneway":
        proof = told.oneway()[1:] if towns and draw.random() < 0.5 else drawn_row(draw, lines, 1)
        return check_oneway(proof)
    if kind == "check_side":
        return check_side(drawn_row(draw, draw.randrange(5), max(0, towns - 1)))
    labels = drawn_row(draw, towns, draw.choice([2, 4, 5]))
    return check_sides(labels, draw.choice([0, 1, 1, 2, 2, 3, 4, 5, 6, drawn_number(draw)]))


def drawn_call(draw, told, weights):
    town = lambda: draw.choice([0, 1, 2, 3, 4, 5, draw.randrange(5), TOP])
    inner = lambda: draw.randrange(told.n or 1)
    kind = draw.choices(KINDS, weights)[0]
    if kind == "begin":
        return begin(draw.choice([0, 1, 2, 3, 4, 5, 6, TOP]))
    if kind == "add":
        return add(inner(), inner()) if draw.random() < 0.5 else add(town(), town())
    if kind == "drop":
        return drop(drawn_number(draw))
    if kind == "line":
        return line(drawn_number(draw))
    plain = {"count": count, "oneway": oneway, "mend": mend}
    return plain[kind]() if kind in plain else drawn_check(draw, kind, told)


class Histories(unittest.TestCase):
    def compare(self, calls):
        told = Told()
        self.assertEqual(ask(*calls), [told.answer(call) for call in calls], calls)

    def drawn_history(self, draw, first, weights):
        """Draws the calls while a second net goes along, so that the checks are asked what may hold."""
        told, calls = Told(), list(first)
        expected = [told.answer(call) for call in calls]
        while len(calls) < 30:
            call = drawn_call(draw, told, weights)
            if len(joined(calls + [call])) > 400:
                break
            calls.append(call)
            expected.append(told.answer(call))
        return calls, expected

    def compare_drawn(self, draw, first, weights):
        calls, expected = self.drawn_history(draw, first, weights)
        handed_in = joined(calls)
        as_it_was = list(handed_in)
        self.assertEqual(ask(*calls), expected, calls)
        first_time = answers(handed_in)
        self.assertEqual(handed_in, as_it_was)
        self.assertEqual(answers(handed_in), first_time)
        self.assertEqual(handed_in, as_it_was)

    def test_every_short_history_of_the_first_five_calls(self):
        for length in range(1, 5):
            for calls in itertools.product(FEW_CALLS, repeat=length):
                self.compare(calls)

    def test_every_short_history_of_all_calls(self):
        for length in range(1, 4):
            for calls in itertools.product(FEW_OF_ALL, repeat=length):
                self.compare(calls)

    def test_every_short_history_on_a_begun_net(self):
        for calls in itertools.product(FEW_OF_ALL, repeat=3):
            self.compare((begin(3), add(0, 1)) + calls)

    def test_long_histories_of_the_first_five_calls(self):
        draw = random.Random(1)
        for history in range(1000):
            self.compare_drawn(draw, [begin(draw.randrange(2, 6))], [1, 14, 5, 6, 3, 0, 0, 0, 0, 0])

    def test_long_histories_that_may_begin_late(self):
        draw = random.Random(2)
        for history in range(300):
            self.compare_drawn(draw, [], [2, 14, 4, 3, 2, 3, 3, 3, 3, 3])

    def test_long_histories_of_all_calls(self):
        draw = random.Random(3)
        for history in range(600):
            self.compare_drawn(draw, [begin(draw.randrange(1, 6))], [0.3, 14, 4, 1, 1, 4, 4, 5, 5, 5])

    def test_long_rows_up_to_four_hundred_numbers(self):
        draw = random.Random(4)
        for history in range(200):
            told, calls = Told(), [begin(draw.randrange(1, 6))] + [add(draw.randrange(5), draw.randrange(5))] * 3
            calls += [oneway(), mend()]
            left = 400 - len(joined(calls)) - 7
            lengths = sorted(draw.randrange(left + 1) for cut in range(2))
            lengths = [lengths[0], lengths[1] - lengths[0], left - lengths[1]]
            rows = [[drawn_number(draw) for place in range(length)] for length in lengths]
            calls += [check_oneway(rows[0]), check_side(rows[1]), check_sides(rows[2], drawn_number(draw))]
            self.assertEqual(len(joined(calls)), 400)
            self.assertEqual(ask(*calls), [told.answer(call) for call in calls], calls)


if __name__ == "__main__":
    unittest.main()
