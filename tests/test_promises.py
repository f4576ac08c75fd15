"""The promises, over many nets: what is given passes its check, and with fewer lines it can't be."""

import itertools
import random
import unittest

import second
from asking import add, ask, begin, check_oneway, check_side, check_sides, drop, last_answer, mend, net_of, oneway

MOST_LINES = {1: 0, 2: 8, 3: 8, 4: 6, 5: 4}


def turned_and_mixed(draw, lines):
    turned = [pair if draw.random() < 0.5 else pair[::-1] for pair in lines]
    draw.shuffle(turned)
    return tuple(turned)


def every_small_net():
    """Every net up to so many lines, but for the order of the lines and of each one's towns."""
    draw = random.Random(11)
    for n, most in MOST_LINES.items():
        for length in range(most + 1):
            for lines in itertools.combinations_with_replacement(second.pairs(n), length):
                yield n, turned_and_mixed(draw, lines)


def drawn_nets(many):
    draw = random.Random(12)
    for net in range(many):
        n = draw.choice([4, 5])
        pairs = draw.sample(second.pairs(n), draw.randrange(1, len(second.pairs(n)) + 1))
        yield n, turned_and_mixed(draw, draw.choices(pairs, k=draw.randrange(4, 9)))


def many_nets():
    return itertools.chain(every_small_net(), drawn_nets(700))


def with_gaps(n, lines):
    """The same net, built by calls that leave free numbers between the lines where there's room."""
    fillers = 8 - len(lines)
    calls, gone = [begin(n)], []
    for place, (u, v) in enumerate(lines):
        if place < fillers:
            gone.append(len(calls) - 1)
            calls.append(add(v, u))
        calls.append(add(u, v))
    return calls + [drop(e) for e in gone]


def new_pairs(told):
    numbers = told[1:1 + 2 * told[0]]
    return tuple(zip(numbers[0::2], numbers[1::2]))


class Oneway(unittest.TestCase):
    def test_what_it_gives_is_as_told_and_passes_its_check(self):
        for n, lines in many_nets():
            told = last_answer(n, lines, oneway())
            self.assertEqual(told, second.oneway(n, lines), (n, lines))
            check = check_oneway(told[1:]) if told[0] == 1 else check_side(told[1:])
            self.assertEqual(last_answer(n, lines, check), [1], (n, lines))

    def test_directions_just_if_the_net_is_safe(self):
        for n, lines in many_nets():
            self.assertEqual(last_answer(n, lines, oneway())[0], int(second.safe(n, lines)), (n, lines))

    def test_directions_and_a_side_cant_both_be(self):
        for n, lines in every_small_net():
            if n > 3 or len(lines) > 4:
                continue
            ways = [list(way) for way in itertools.product([0, 1], repeat=len(lines))]
            some_way = [1] in [last_answer(n, lines, check_oneway(way)) for way in ways]
            some_side = [1] in [last_answer(n, lines, check_side(list(side))) for side in second.sides(n)]
            self.assertEqual([some_way, some_side], [second.safe(n, lines), not second.safe(n, lines)], (n, lines))

    def test_free_numbers_between_the_lines_make_no_odds(self):
        for n, lines in many_nets():
            told = ask(*with_gaps(n, lines), oneway(), mend())[-2:]
            self.assertEqual(told, ask(*net_of(n, lines), oneway(), mend())[-2:], (n, lines))


class Mend(unittest.TestCase):
    def test_what_it_gives_is_as_told(self):
        for n, lines in many_nets():
            self.assertEqual(last_answer(n, lines, mend()), second.mend(n, lines), (n, lines))

    def test_with_its_lines_the_net_is_safe(self):
        for n, lines in many_nets():
            told = last_answer(n, lines, mend())
            mended = lines + new_pairs(told)
            self.assertTrue(second.safe(n, mended), (n, lines))
            if len(mended) <= 8:
                self.assertEqual([last_answer(n, mended, oneway())[0], last_answer(n, mended, mend())], [1, [0]])

    def test_with_fewer_it_cant_be(self):
        for n, lines in many_nets():
            k = last_answer(n, lines, mend())[0]
            for fewer in range(k):
                some = [new for new in second.new_lines(n, fewer) if second.safe(n, lines + new)]
                self.assertEqual(some, [], (n, lines))

    def test_each_of_its_lines_brings_the_rest_one_nearer(self):
        for n, lines in every_small_net():
            told = last_answer(n, lines, mend())
            if told[0] > 0 and len(lines) < 8:
                self.assertEqual(last_answer(n, lines + new_pairs(told)[:1], mend())[0], told[0] - 1, (n, lines))

    def test_labels_pass_their_check_and_show_that_fewer_wont_do(self):
        for n, lines in many_nets():
            told = last_answer(n, lines, mend())
            k, labels = told[0], told[1 + 2 * told[0]:]
            if k == 0:
                self.assertEqual(told, [0])
                continue
            self.assertEqual(len(labels), n)
            self.assertEqual(ask(*net_of(n, lines), check_sides(labels, k), check_sides(labels, k + 1))[-2:],
                             [[1], [0]], (n, lines))
            self.assertIn(second.want(n, lines, labels), [2 * k - 1, 2 * k], (n, lines))


if __name__ == "__main__":
    unittest.main()
