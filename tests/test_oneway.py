"""oneway: the first directions by which every town reaches every other, or the first weak side."""

import unittest

from asking import add, ask, begin, drop, last_answer, oneway


class Directions(unittest.TestCase):
    def told(self, n, *lines):
        return last_answer(n, lines, oneway())

    def test_one_town_needs_no_line(self):
        self.assertEqual(self.told(1), [1])

    def test_a_ring(self):
        self.assertEqual(self.told(3, (0, 1), (1, 2), (2, 0)), [1, 0, 0, 0])
        self.assertEqual(self.told(5, (0, 1), (1, 2), (2, 3), (3, 4), (4, 0)), [1, 0, 0, 0, 0, 0])

    def test_a_line_is_turned_where_it_must_be(self):
        self.assertEqual(self.told(3, (0, 1), (1, 2), (0, 2)), [1, 0, 0, 1])
        self.assertEqual(self.told(3, (0, 1), (2, 1), (2, 0)), [1, 0, 1, 0])

    def test_first_of_several_directions(self):
        # Of the two ways round, 0 1 1 goes before 1 0 0.
        self.assertEqual(self.told(3, (1, 0), (1, 2), (2, 0)), [1, 0, 1, 1])
        # A line across a ring may lead either way: 0 goes before 1.
        self.assertEqual(self.told(4, (0, 1), (1, 2), (2, 3), (3, 0), (0, 2)), [1, 0, 0, 0, 0, 0])
        self.assertEqual(self.told(4, (2, 0), (0, 1), (1, 2), (2, 3), (3, 0)), [1, 0, 0, 0, 0, 0])

    def test_same_two_towns_joined_more_than_once(self):
        self.assertEqual(self.told(2, (0, 1), (0, 1)), [1, 0, 1])
        self.assertEqual(self.told(2, (0, 1), (1, 0)), [1, 0, 0])
        self.assertEqual(self.told(2, (1, 0), (1, 0), (1, 0)), [1, 0, 0, 1])
        self.assertEqual(self.told(3, (0, 1), (0, 1), (2, 1), (2, 1)), [1, 0, 1, 0, 1])

    def test_eight_lines(self):
        self.assertEqual(self.told(2, *[(0, 1)] * 8), [1, 0, 0, 0, 0, 0, 0, 0, 1])
        self.assertEqual(self.told(5, (0, 1), (0, 1), (2, 1), (2, 1), (2, 3), (2, 3), (4, 3), (4, 3)),
                         [1, 0, 1, 0, 1, 0, 1, 0, 1])

    def test_free_numbers_between_the_lines(self):
        told = ask(begin(3), add(1, 2), add(0, 1), add(0, 2), add(1, 2), add(0, 2), drop(0), drop(2), oneway())
        self.assertEqual(told[-1], [1, 0, 0, 1])

    def test_order_is_by_number_not_by_when_a_line_came(self):
        told = ask(begin(3), add(0, 1), add(1, 2), add(0, 2), drop(0), add(1, 0), oneway())
        self.assertEqual(told[-1], [1, 0, 1, 0])
        told = ask(begin(3), add(0, 1), add(0, 1), add(1, 2), add(2, 0), drop(0), drop(1), add(1, 0), oneway())
        self.assertEqual(told[-1], [1, 0, 1, 1])


class Sides(unittest.TestCase):
    def told(self, n, *lines):
        return last_answer(n, lines, oneway())

    def test_no_line_at_all(self):
        for n in range(2, 6):
            self.assertEqual(self.told(n), [0, 0])

    def test_one_line_between_two_towns(self):
        self.assertEqual(self.told(2, (0, 1)), [0, 0])
        self.assertEqual(self.told(2, (1, 0)), [0, 0])

    def test_parted_net_of_two_halves(self):
        self.assertEqual(self.told(4, (0, 1), (0, 1), (2, 3), (2, 3)), [0, 0, 1])
        self.assertEqual(self.told(4, (0, 3), (3, 0), (2, 1), (2, 1)), [0, 0, 3])

    def test_net_that_one_lines_loss_parts(self):
        self.assertEqual(self.told(5, (0, 2), (0, 2), (1, 3), (3, 4), (4, 1), (0, 1)), [0, 0, 2])
        self.assertEqual(self.told(5, (0, 2), (2, 3), (3, 0), (1, 4), (4, 1), (3, 4)), [0, 1, 4])

    def test_eight_lines_and_still_a_side(self):
        self.assertEqual(self.told(3, *[(0, 1)] * 8), [0, 2])
        self.assertEqual(self.told(3, *[(0, 1)] * 7, (1, 2)), [0, 2])

    def test_fewer_towns_go_before_a_lower_row(self):
        # 0 1 2 and 3 are both weak sides.
        self.assertEqual(self.told(4, (0, 1), (1, 2), (2, 0)), [0, 3])
        self.assertEqual(self.told(4, (0, 1), (1, 2), (2, 0), (3, 0)), [0, 3])
        # 0 1 2 goes before 3 4 as a row, but has more towns.
        self.assertEqual(self.told(5, (0, 1), (1, 2), (2, 0), (3, 4), (3, 4)), [0, 3, 4])

    def test_of_as_many_towns_the_first_row(self):
        self.assertEqual(self.told(3, (0, 1), (0, 2)), [0, 1])
        self.assertEqual(self.told(4, (2, 0), (2, 1), (0, 1), (3, 2)), [0, 3])
        self.assertEqual(self.told(5, (4, 0), (0, 4), (0, 2), (2, 4)), [0, 1])

    def test_dropping_and_adding_a_line_turns_it(self):
        told = ask(begin(3), add(0, 1), add(1, 2), oneway(), add(2, 0), oneway(), drop(1), oneway(), add(2, 1),
                   oneway(), begin(2), oneway())
        self.assertEqual([told[place] for place in [3, 5, 7, 9, 11]],
                         [[0, 0], [1, 0, 0, 0], [0, 1], [1, 0, 1, 0], [0, 0]])


if __name__ == "__main__":
    unittest.main()
