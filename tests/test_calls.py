"""begin, add, drop, line, count: what they answer and what they refuse."""

import unittest

from asking import TOP, add, all_lines, ask, begin, count, drop, line
from asking import check_oneway, check_side, check_sides, mend, oneway

EIGHT = [add(0, 1)] * 8
WRONG_ADDS = [add(3, 0), add(0, 3), add(3, 4), add(TOP, 0), add(0, TOP), add(TOP, TOP - 1),
              add(TOP, TOP), add(3, 3), add(0, 0), add(2, 2)]


class Ordinary(unittest.TestCase):
    def test_a_net_begun_filled_asked_and_dropped(self):
        self.assertEqual(
            ask(begin(4), count(), add(0, 1), add(3, 2), add(1, 3), count(),
                line(0), line(1), line(2), drop(1), count(), line(0), line(2)),
            [[0], [0], [0], [1], [2], [3], [0, 1], [3, 2], [1, 3], [0], [2], [0, 1], [1, 3]])

    def test_first_and_second_town_stay_as_told(self):
        self.assertEqual(ask(begin(2), add(1, 0), add(0, 1), line(0), line(1))[3:], [[1, 0], [0, 1]])

    def test_every_two_towns_of_every_net_can_be_joined(self):
        for n in range(1, 6):
            for u in range(n):
                for v in range(n):
                    if u != v:
                        self.assertEqual(ask(begin(n), add(u, v), line(0), count()), [[0], [0], [u, v], [1]])

    def test_same_two_towns_joined_many_times(self):
        told = ask(begin(2), *EIGHT, count(), *all_lines())
        self.assertEqual(told, [[0]] + [[e] for e in range(8)] + [[8]] + [[0, 1]] * 8)

    def test_lowest_free_number_is_taken_first(self):
        told = ask(begin(5), *EIGHT, drop(6), drop(2), drop(4), count(),
                   add(2, 3), add(3, 4), count(), add(4, 2), count(), line(2), line(4), line(6), line(3))
        self.assertEqual(told[9:], [[0], [0], [0], [5], [2], [4], [7], [6], [8],
                                    [2, 3], [3, 4], [4, 2], [0, 1]])

    def test_number_nought_is_taken_again(self):
        self.assertEqual(ask(begin(3), add(0, 1), add(1, 2), drop(0), add(2, 0), line(0), line(1))[3:],
                         [[0], [0], [2, 0], [1, 2]])

    def test_dropping_leaves_the_other_numbers(self):
        told = ask(begin(3), add(0, 1), add(1, 2), add(2, 0), drop(0), *all_lines())
        self.assertEqual(told[5:], [[-3], [1, 2], [2, 0]] + [[-3]] * 5)

    def test_begin_again_leaves_no_line(self):
        told = ask(begin(5), add(3, 4), add(0, 1), begin(3), count(), *all_lines(), add(3, 4), add(1, 2), line(0))
        self.assertEqual(told[3:], [[0], [0]] + [[-3]] * 8 + [[-1], [0], [1, 2]])

    def test_begin_again_with_as_many_towns(self):
        self.assertEqual(ask(begin(2), *EIGHT, begin(2), count(), add(1, 0), count())[9:], [[0], [0], [0], [1]])

    def test_begin_again_with_more_towns(self):
        self.assertEqual(ask(begin(2), add(0, 4), begin(5), add(0, 4), line(0)), [[0], [-1], [0], [0], [0, 4]])


class Begin(unittest.TestCase):
    def test_towns_one_to_five(self):
        for n in range(1, 6):
            self.assertEqual(ask(begin(n), count()), [[0], [0]])

    def test_other_numbers_of_towns(self):
        for n in [0, 6, 7, 8, 2 ** 64, 2 ** 64 + 1, 2 ** 159, TOP]:
            self.assertEqual(ask(begin(n)), [[-1]])

    def test_refused_behind_a_good_one_leaves_the_net(self):
        for n in [0, 6, TOP]:
            told = ask(begin(3), add(0, 1), add(2, 1), drop(0), begin(n), count(), *all_lines(),
                       add(2, 3), add(2, 0))
            self.assertEqual(told[4:], [[-1], [1], [-3], [2, 1]] + [[-3]] * 6 + [[-1], [0]])


class Add(unittest.TestCase):
    def test_wrong_towns(self):
        for wrong in WRONG_ADDS:
            self.assertEqual(ask(begin(3), wrong), [[0], [-1]])

    def test_the_town_behind_the_last_is_none(self):
        for n in range(1, 6):
            self.assertEqual(ask(begin(n), add(n, 0), add(0, n), count()), [[0], [-1], [-1], [0]])

    def test_wrong_towns_change_nothing(self):
        for wrong in WRONG_ADDS:
            told = ask(begin(3), add(0, 1), wrong, count(), *all_lines(), add(1, 2))
            self.assertEqual(told[2:], [[-1], [1], [0, 1]] + [[-3]] * 7 + [[1]])

    def test_ninth_line(self):
        told = ask(begin(3), *EIGHT, add(1, 2), count(), *all_lines())
        self.assertEqual(told[9:], [[-2], [8]] + [[0, 1]] * 8)

    def test_wrong_towns_go_before_eight_lines(self):
        for wrong in WRONG_ADDS:
            told = ask(begin(3), *EIGHT, wrong, count(), *all_lines())
            self.assertEqual(told[9:], [[-1], [8]] + [[0, 1]] * 8)

    def test_room_again_behind_a_drop(self):
        self.assertEqual(ask(begin(3), *EIGHT, add(1, 2), drop(7), add(1, 2), line(7), add(1, 2))[9:],
                         [[-2], [0], [7], [1, 2], [-2]])

    def test_net_of_one_town_takes_no_line(self):
        self.assertEqual(ask(begin(1), add(0, 0), add(0, 1), add(1, 0), add(1, 1), count(), line(0), drop(0)),
                         [[0], [-1], [-1], [-1], [-1], [0], [-3], [-3]])


class DropAndLine(unittest.TestCase):
    def test_line_seven(self):
        self.assertEqual(ask(begin(2), *EIGHT, line(7), drop(7), line(7), drop(7), count())[9:],
                         [[0, 1], [0], [-3], [-3], [7]])

    def test_above_seven(self):
        for e in [8, 9, 2 ** 64, 2 ** 64 + 7, 2 ** 159, TOP]:
            self.assertEqual(ask(begin(2), line(e), drop(e)), [[0], [-1], [-1]])
            self.assertEqual(ask(begin(2), *EIGHT, line(e), drop(e), count(), *all_lines())[9:],
                             [[-1], [-1], [8]] + [[0, 1]] * 8)

    def test_no_such_line(self):
        for e in range(8):
            self.assertEqual(ask(begin(5), line(e), drop(e), count()), [[0], [-3], [-3], [0]])

    def test_refused_drop_changes_nothing(self):
        told = ask(begin(4), add(0, 1), add(3, 2), drop(2), drop(7), count(), *all_lines(), add(1, 2))
        self.assertEqual(told[3:], [[-3], [-3], [2], [0, 1], [3, 2]] + [[-3]] * 6 + [[2]])

    def test_dropped_twice(self):
        self.assertEqual(ask(begin(2), add(0, 1), add(1, 0), drop(0), line(0), drop(0), count(), line(1))[3:],
                         [[0], [-3], [-3], [1], [1, 0]])

    def test_asking_for_a_line_changes_nothing(self):
        self.assertEqual(ask(begin(2), add(1, 0), line(0), line(0), line(1), line(8), count(), line(0), add(0, 1))[2:],
                         [[1, 0], [1, 0], [-3], [-1], [1], [1, 0], [1]])


class NoNet(unittest.TestCase):
    def calls_but_begin(self):
        return [add(0, 1), add(0, 0), add(5, 6), add(TOP, TOP), drop(0), drop(7), drop(8), drop(TOP),
                line(0), line(7), line(8), line(TOP), count(), oneway(), mend(),
                check_oneway([]), check_oneway([0, 1]), check_side([]), check_side([0, TOP]),
                check_sides([], 0), check_sides([0, 1, 2], 2), check_sides([TOP], TOP)]

    def test_at_the_beginning(self):
        for call in self.calls_but_begin():
            self.assertEqual(ask(call), [[-4]], call)

    def test_behind_a_refused_begin(self):
        for n in [0, 6, TOP]:
            for call in self.calls_but_begin():
                self.assertEqual(ask(begin(n), call), [[-1], [-4]], call)

    def test_all_behind_one_another_then_a_net(self):
        calls = self.calls_but_begin()
        told = ask(*calls, begin(2), count(), add(1, 0), line(0))
        self.assertEqual(told, [[-4]] * len(calls) + [[0], [0], [0], [1, 0]])


if __name__ == "__main__":
    unittest.main()
