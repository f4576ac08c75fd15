"""checkOneway, checkSide, checkSides: what passes and what doesn't; and that no asking changes the net."""

import unittest

from asking import TOP, add, all_lines, ask, begin, count, drop, last_answer, line, mend, net_of, oneway
from asking import check_oneway, check_side, check_sides

RING = [(0, 1), (1, 2), (2, 0)]
PATH = [(0, 1), (1, 2)]
STAR = [(0, 1), (0, 2), (0, 3)]


class CheckOneway(unittest.TestCase):
    def passes(self, n, lines, *ways):
        return [last_answer(n, lines, check_oneway(way)) for way in ways]

    def test_directions_that_do(self):
        self.assertEqual(self.passes(3, RING, [0, 0, 0], [1, 1, 1]), [[1], [1]])
        self.assertEqual(self.passes(2, [(0, 1), (0, 1)], [0, 1], [1, 0]), [[1], [1]])

    def test_directions_that_are_not_the_first_do_too(self):
        self.assertEqual(self.passes(3, RING + [(0, 2)], [1, 1, 1, 1], [1, 1, 1, 0], [0, 0, 0, 1]), [[1], [1], [1]])

    def test_directions_that_dont(self):
        wrong = [[0, 0, 1], [0, 1, 0], [1, 0, 0], [0, 1, 1], [1, 0, 1], [1, 1, 0]]
        self.assertEqual(self.passes(3, RING, *wrong), [[0]] * 6)
        self.assertEqual(self.passes(2, [(0, 1), (1, 0)], [0, 1], [1, 0]), [[0], [0]])

    def test_reaching_all_is_asked_of_every_town(self):
        # Town 0 reaches all, but none reaches it; then the other way round.
        self.assertEqual(self.passes(3, [(0, 1), (0, 2), (1, 2), (1, 2)], [0, 0, 0, 1], [1, 1, 0, 1]), [[0], [0]])
        # The same of the last town.
        self.assertEqual(self.passes(3, [(2, 1), (2, 0), (1, 0), (1, 0)], [0, 0, 0, 1], [1, 1, 0, 1]), [[0], [0]])

    def test_too_few_and_too_many(self):
        self.assertEqual(self.passes(3, RING, [], [0], [0, 0], [0, 0, 0, 0], [0] * 8, [0] * 300), [[0]] * 6)
        # The first three alone would do.
        self.assertEqual(self.passes(3, RING + [(0, 1)], [0, 0, 0]), [[0]])

    def test_numbers_above_one(self):
        for wrong in [2, 3, 2 ** 64, TOP - 1, TOP]:
            ways = [[wrong, 0, 0], [0, wrong, 0], [0, 0, wrong], [1, 1, wrong], [wrong, 1, 1], [wrong] * 3]
            self.assertEqual(self.passes(3, RING, *ways), [[0]] * 6)

    def test_no_line(self):
        self.assertEqual(self.passes(1, [], [], [0], [1], [TOP]), [[1], [0], [0], [0]])
        for n in range(2, 6):
            self.assertEqual(self.passes(n, [], [], [0]), [[0], [0]])

    def test_net_that_isnt_safe(self):
        self.assertEqual(self.passes(3, PATH, [0, 0], [0, 1], [1, 0], [1, 1]), [[0]] * 4)

    def test_free_numbers_between_the_lines(self):
        told = ask(begin(3), add(1, 2), add(0, 1), add(0, 2), add(1, 2), add(0, 2), drop(0), drop(2),
                   check_oneway([0, 0, 1]), check_oneway([0, 0, 0]), check_oneway([0, 0, 0, 0, 1]))
        self.assertEqual(told[-3:], [[1], [0], [0]])


class CheckSide(unittest.TestCase):
    def passes(self, n, lines, *sides):
        return [last_answer(n, lines, check_side(side)) for side in sides]

    def test_sides_that_one_line_at_most_leaves(self):
        self.assertEqual(self.passes(3, PATH, [0], [2], [0, 1], [1, 2]), [[1]] * 4)
        self.assertEqual(self.passes(2, [], [0], [1]), [[1], [1]])

    def test_sides_that_two_lines_leave(self):
        self.assertEqual(self.passes(3, PATH, [1], [0, 2]), [[0], [0]])
        self.assertEqual(self.passes(3, RING, [0], [1], [2], [0, 1], [0, 2], [1, 2]), [[0]] * 6)
        self.assertEqual(self.passes(2, [(0, 1), (0, 1)], [0], [1]), [[0], [0]])

    def test_whatever_order_and_more_than_once(self):
        self.assertEqual(self.passes(3, PATH, [1, 0], [1, 1, 0, 1], [0] * 300, [2, 1, 2]), [[1]] * 4)
        self.assertEqual(self.passes(3, PATH, [2, 0], [1, 1], [1] * 300, [2, 0, 2, 0]), [[0]] * 4)

    def test_numbers_that_are_no_towns_dont_matter(self):
        self.assertEqual(self.passes(3, PATH, [3, 0], [0, TOP], [TOP, 1, 4, 0, 3], [0, 3, 4]), [[1]] * 4)
        self.assertEqual(self.passes(3, PATH, [3, 1], [1, TOP], [TOP, 2, 4, 0, 3]), [[0]] * 3)

    def test_no_town(self):
        for n in range(1, 6):
            self.assertEqual(self.passes(n, [], [], [n], [TOP, n + 1, TOP]), [[0]] * 3)

    def test_all_towns(self):
        for n in range(1, 6):
            towns = list(range(n))
            self.assertEqual(self.passes(n, [], towns, towns[::-1], towns * 2, towns + [n, TOP]), [[0]] * 4)

    def test_as_many_numbers_as_towns_but_not_all_towns(self):
        self.assertEqual(self.passes(3, PATH, [0, 0, 0], [0, 1, 3], [1, 0, 1]), [[1]] * 3)


class CheckSides(unittest.TestCase):
    def passes(self, n, lines, labels, *ks):
        return [last_answer(n, lines, check_sides(labels, k))[0] for k in ks]

    def test_just_reached_and_one_too_many(self):
        # An even want, 4: 2 k - 1 is 3, then 5.
        self.assertEqual(self.passes(2, [], [0, 1], 0, 1, 2, 3), [1, 1, 1, 0])
        # An odd one, 3: the three leaves want one each.
        self.assertEqual(self.passes(4, STAR, [0, 1, 2, 3], 0, 1, 2, 3), [1, 1, 1, 0])
        self.assertEqual(self.passes(4, STAR, [0, 0, 1, 2], 0, 1, 2), [1, 1, 0])
        self.assertEqual(self.passes(5, [], [0, 1, 2, 3, 4], 4, 5, 6), [1, 1, 0])
        self.assertEqual(self.passes(3, RING, [0, 1, 2], 0, 1), [1, 0])

    def test_a_set_that_more_than_two_lines_leave_wants_none(self):
        # Not below none: else the inner town would take a line off what the leaves want.
        self.assertEqual(self.passes(4, STAR, [4, 3, 1, 0], 2, 3), [1, 0])

    def test_too_few_and_too_many(self):
        for labels in [[], [0], [0, 1], [0, 1, 2, 3], [0, 1, 2, 2], [0] * 300]:
            self.assertEqual(self.passes(3, [], labels, 0, 1, 2, TOP), [0, 0, 0, 0])

    def test_labels_above_four_are_no_sets(self):
        for other in [5, 6, 2 ** 64, TOP]:
            self.assertEqual(self.passes(3, [], [other, other, other], 0, 1), [1, 0])
            self.assertEqual(self.passes(3, [], [other, other, 0], 1, 2), [1, 0])
            self.assertEqual(self.passes(3, [], [0, other, 1], 2, 3), [1, 0])

    def test_every_label_up_to_four_is_a_set(self):
        for label in range(5):
            self.assertEqual(self.passes(2, [], [label, 5], 1, 2), [1, 0])

    def test_sets_that_are_no_side_want_none(self):
        for n in range(1, 6):
            for label in range(5):
                self.assertEqual(self.passes(n, [], [label] * n, 0, 1), [1, 0])

    def test_k_nought_needs_labels_of_any_want(self):
        self.assertEqual(self.passes(1, [], [0], 0, 1), [1, 0])
        self.assertEqual(self.passes(1, [], [TOP], 0, 1), [1, 0])
        self.assertEqual(self.passes(1, [], [], 0), [0])
        self.assertEqual(self.passes(3, RING, [0, 0, 0], 0), [1])

    def test_k_of_any_size(self):
        for k in [6, 2 ** 31, 2 ** 63, 2 ** 64, 2 ** 159, TOP]:
            self.assertEqual(self.passes(5, [], [0, 1, 2, 3, 4], k), [0])

    def test_labels_need_not_be_the_first(self):
        self.assertEqual(self.passes(3, PATH, [2, 4, 4], 1, 2), [1, 0])
        self.assertEqual(self.passes(3, PATH, [5, 0, 0], 1, 2), [1, 0])
        self.assertEqual(self.passes(3, PATH, [0, 1, 0], 1), [0])


class ChangesNothing(unittest.TestCase):
    def asked(self):
        return [oneway(), mend(), check_oneway([0, 0, 0]), check_oneway([1]), check_oneway([TOP] * 9), check_side([0]),
                check_side([]), check_side([TOP]), check_sides([0, 1, 2], 2), check_sides([], 0),
                check_sides([TOP] * 5, TOP)]

    def test_on_a_net_with_lines(self):
        for lines in [RING, PATH, [], [(0, 1)] * 8]:
            behind = [count()] + all_lines() + [add(2, 1), line(1), begin(6), count()]
            without = ask(*net_of(3, lines), *behind)
            for call in self.asked():
                told = ask(*net_of(3, lines), call, *behind)
                self.assertEqual(told[:len(lines) + 1] + told[len(lines) + 2:], without, call)

    def test_behind_one_another(self):
        calls = self.asked()
        alone = [last_answer(3, PATH, call) for call in calls]
        self.assertEqual(ask(*net_of(3, PATH), *calls, *calls)[3:], alone * 2)


if __name__ == "__main__":
    unittest.main()
