"""mend: the fewest new lines, the first row of them, and the first labels that show it."""

import unittest

from asking import add, ask, begin, drop, last_answer, mend


class Mend(unittest.TestCase):
    def told(self, n, *lines):
        return last_answer(n, lines, mend())

    def test_safe_nets_need_none_and_have_no_labels(self):
        self.assertEqual(self.told(1), [0])
        self.assertEqual(self.told(2, (0, 1), (1, 0)), [0])
        self.assertEqual(self.told(3, (0, 1), (1, 2), (2, 0)), [0])
        self.assertEqual(self.told(5, (0, 1), (1, 2), (2, 3), (3, 4), (4, 0), (0, 2)), [0])
        self.assertEqual(self.told(2, *[(0, 1)] * 8), [0])

    def test_no_line_at_all(self):
        self.assertEqual(self.told(2), [2, 0, 1, 0, 1, 0, 1])
        self.assertEqual(self.told(3), [3, 0, 1, 0, 2, 1, 2, 0, 1, 2])
        self.assertEqual(self.told(4), [4, 0, 1, 0, 2, 1, 3, 2, 3, 0, 1, 2, 3])
        self.assertEqual(self.told(5), [5, 0, 1, 0, 2, 1, 3, 2, 4, 3, 4, 0, 1, 2, 3, 4])

    def test_one_line_is_wanted(self):
        self.assertEqual(self.told(2, (0, 1)), [1, 0, 1, 0, 1])
        self.assertEqual(self.told(2, (1, 0)), [1, 0, 1, 0, 1])
        self.assertEqual(self.told(3, (0, 1), (1, 2)), [1, 0, 2, 0, 0, 1])

    def test_new_lines_may_join_what_a_line_joins_already(self):
        self.assertEqual(self.told(4, (0, 1), (0, 2), (0, 3)), [2, 0, 1, 2, 3, 0, 1, 2, 3])

    def test_same_new_line_twice(self):
        self.assertEqual(self.told(4, (0, 1), (0, 1), (2, 3), (2, 3)), [2, 0, 2, 0, 2, 0, 0, 1, 1])

    def test_lower_town_stands_first_whichever_way_the_lines_are_told(self):
        self.assertEqual(self.told(3, (2, 1), (1, 0)), [1, 0, 2, 0, 0, 1])
        self.assertEqual(self.told(3, (2, 0), (2, 1)), [1, 0, 1, 0, 1, 0])

    def test_first_row_of_several(self):
        # 1 3 with 2 4, and 1 4 with 2 3, would do too.
        self.assertEqual(self.told(5, (0, 1), (0, 2), (0, 3), (0, 4))[:5], [2, 1, 2, 3, 4])
        # The bridge joins a ring of three to a pair: 0 3 goes before 0 4, 1 3 and the rest.
        self.assertEqual(self.told(5, (0, 1), (1, 2), (2, 0), (3, 4), (3, 4), (2, 3))[:3], [1, 0, 3])

    def test_first_labels_may_want_one_less_than_the_lines_give(self):
        # 3 is enough for two lines, though 0 1 2 3 4 would want 4.
        self.assertEqual(self.told(5, (0, 1), (0, 2), (0, 3), (0, 4)), [2, 1, 2, 3, 4, 0, 0, 1, 2, 3])

    def test_new_lines_where_eight_are_there(self):
        self.assertEqual(self.told(3, *[(0, 1)] * 8), [2, 0, 2, 0, 2, 0, 0, 1])
        self.assertEqual(self.told(5, *[(3, 4)] * 8),
                         [4, 0, 1, 0, 2, 1, 3, 2, 3, 0, 1, 2, 3, 3])

    def test_free_numbers_between_the_lines(self):
        told = ask(begin(3), add(0, 1), add(1, 2), add(2, 0), mend(), drop(1), mend(), add(1, 0), mend())
        self.assertEqual([told[place] for place in [4, 6, 8]], [[0], [1, 1, 2, 0, 0, 1], [1, 0, 2, 0, 0, 1]])


if __name__ == "__main__":
    unittest.main()
