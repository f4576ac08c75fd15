"""The form of the list handed in and of the list given back, and what a call leaves untouched."""

import contextlib
import io
import subprocess
import sys
import unittest

from asking import TOP, add, ask, begin, check_oneway, check_side, check_sides, count, drop, joined, line
from asking import mend, oneway
from lossnets.nets import answers

MIXED = joined([count(), begin(6), begin(3), add(0, 1), add(2, 0), line(1), add(1, 1), drop(0),
                line(0), add(1, 2), line(0), line(TOP), count(), oneway(), mend(), check_oneway([0, 1]),
                check_side([2, TOP, 0]), check_sides([0, TOP, 1], 1), add(0, 1), oneway(), mend(),
                check_oneway([0, 0, 0]), check_side([]), check_sides([0, 1, 2], 1)])
MIXED_TOLD = [1, -4, 1, -1, 1, 0, 1, 0, 1, 1, 2, 2, 0, 1, -1, 1, 0, 1, -3, 1, 0, 2, 1, 2, 1, -1, 1, 2,
              2, 0, 0, 6, 1, 0, 1, 0, 1, 0, 1, 0, 1, 1, 1, 1, 1, 2, 4, 1, 0, 0, 0, 1, 0, 1, 1, 1, 0, 1, 0]


class Unchanging(list):
    def refuse(self, *args, **kwargs):
        raise AssertionError("the list handed in is changed")

    append = extend = insert = pop = remove = clear = sort = reverse = refuse
    __setitem__ = __delitem__ = __iadd__ = __imul__ = refuse


class Form(unittest.TestCase):
    def test_how_many_numbers_then_the_numbers(self):
        self.assertEqual(answers([0, 3]), [1, 0])
        self.assertEqual(answers([4]), [1, -4])
        self.assertEqual(answers([0, 2, 1, 1, 0, 3, 0, 4, 2, 0, 4]), [1, 0, 1, 0, 2, 1, 0, 1, 1, 1, 0, 1, 0])
        self.assertEqual(answers(MIXED), MIXED_TOLD)

    def test_what_oneway_and_mend_tell_stands_without_a_count(self):
        self.assertEqual(answers([0, 1, 5, 6]), [1, 0, 1, 1, 1, 0])
        self.assertEqual(answers([0, 2, 5, 6]), [1, 0, 2, 0, 0, 7, 2, 0, 1, 0, 1, 0, 1])
        self.assertEqual(answers([0, 2, 1, 0, 1, 1, 0, 1, 5, 6]), [1, 0, 1, 0, 1, 1, 3, 1, 0, 1, 1, 0])

    def test_how_the_checks_stand_in_the_list(self):
        # Their rows with how many numbers they have before them; of checkSides k ahead of that.
        self.assertEqual(answers([0, 2, 7, 0, 7, 2, 0, 1, 4]), [1, 0, 1, 0, 1, 0, 1, 0])
        self.assertEqual(answers([0, 2, 8, 0, 8, 1, 1, 8, 2, 0, 1, 4]), [1, 0, 1, 0, 1, 1, 1, 0, 1, 0])
        self.assertEqual(answers([0, 2, 9, 1, 2, 0, 5, 9, 2, 2, 0, 5, 9, 0, 0, 9, 0, 2, 3, 3, 4]),
                         [1, 0, 1, 1, 1, 0, 1, 0, 1, 1, 1, 0])

    def test_a_refused_asking_is_one_number(self):
        self.assertEqual(answers([5, 6, 7, 2, 0, 1, 8, 1, 0, 9, 1, 2, 0, 1, 0, 2, 4]), [1, -4] * 5 + [1, 0, 1, 0])

    def test_a_refused_line_is_one_number(self):
        self.assertEqual(answers([3, 0, 0, 2, 3, 0, 3, 8]), [1, -4, 1, 0, 1, -3, 1, -1])

    def test_thirty_calls(self):
        calls = [begin(5)] + [add(0, 1), add(1, 2), add(4, 3), line(2), drop(0), count(), drop(1)] * 4 + [count()]
        self.assertEqual(len(calls), 30)
        first = [[0], [1], [2], [4, 3], [0], [2], [0]]
        second = [[0], [1], [3], [4, 3], [0], [3], [0]]
        third = [[0], [1], [4], [4, 3], [0], [4], [0]]
        fourth = [[0], [1], [5], [4, 3], [0], [5], [0]]
        self.assertEqual(ask(*calls), [[0]] + first + second + third + fourth + [[4]])

    def test_rows_are_passed_over_whole(self):
        looks_like_calls = [0, 3, 1, 0, 1, 4, 4]
        for call in [check_oneway(looks_like_calls), check_side(looks_like_calls),
                     check_sides(looks_like_calls, 0), check_sides(looks_like_calls, TOP)]:
            self.assertEqual(ask(call, count(), begin(2), count()), [[-4], [-4], [0], [0]])
            self.assertEqual(ask(begin(2), call, count(), call, add(1, 0)), [[0], [0], [0], [0], [0]])

    def test_four_hundred_numbers(self):
        for call in [check_oneway([TOP] * 396), check_side([4] * 396), check_sides([0] * 395, 4)]:
            calls = joined([call, begin(5)])
            self.assertEqual(len(calls), 400)
            self.assertEqual(answers(calls), [1, -4, 1, 0])
        for call, told in [(check_oneway([0] * 396), 0), (check_side([4] * 396), 1), (check_side([0, 1, 2, 3] * 99), 1),
                           (check_side([TOP] * 392 + [4, 3, 1, TOP]), 1), (check_sides([0] * 395, 0), 0)]:
            calls = joined([begin(5), call])
            self.assertEqual(len(calls), 400)
            self.assertEqual(answers(calls), [1, 0, 1, told])

    def test_thirty_askings(self):
        for call in [oneway(), mend()]:
            self.assertEqual(ask(begin(5), *[call] * 29), [[0]] + ask(begin(5), call)[1:] * 29)

    def test_answers_are_a_list_of_plain_whole_numbers(self):
        told = answers(MIXED)
        self.assertIs(type(told), list)
        self.assertEqual({type(number) for number in told}, {int})


class LeftUntouched(unittest.TestCase):
    def test_list_handed_in_is_the_same_afterwards(self):
        calls = list(MIXED)
        answers(calls)
        self.assertEqual(calls, MIXED)

    def test_list_handed_in_is_not_changed_for_a_while(self):
        self.assertEqual(answers(Unchanging(MIXED)), MIXED_TOLD)

    def test_same_list_asked_twice(self):
        calls = list(MIXED)
        self.assertEqual(answers(calls), MIXED_TOLD)
        self.assertEqual(answers(calls), MIXED_TOLD)

    def test_no_net_is_left_from_the_time_before(self):
        answers(joined([begin(5), add(0, 4)]))
        self.assertEqual(answers(joined([count(), line(0), begin(5), count()])), [1, -4, 1, -4, 1, 0, 1, 0])

    def test_changing_what_was_given_back_changes_nothing(self):
        told = answers(MIXED)
        told.clear()
        self.assertEqual(answers(MIXED), MIXED_TOLD)

    def test_prints_nothing(self):
        out = io.StringIO()
        with contextlib.redirect_stdout(out), contextlib.redirect_stderr(out):
            answers(MIXED)
        self.assertEqual(out.getvalue(), "")

    def test_imports_and_opens_nothing(self):
        # A process of its own, as a watch on Python's events can't be taken off again.
        program = (
            "import sys\n"
            "from lossnets.nets import answers\n"
            "seen = []\n"
            "loaded = sorted(sys.modules)\n"
            "sys.addaudithook(lambda event, args: seen.append(event))\n"
            f"told = answers({MIXED!r})\n"
            "events = list(seen)\n"
            "assert events == [], events\n"
            "assert sorted(sys.modules) == loaded\n"
            f"assert told == {MIXED_TOLD!r}, told\n")
        done = subprocess.run([sys.executable, "-c", program], stdin=subprocess.DEVNULL,
                              capture_output=True, text=True)
        self.assertEqual((done.returncode, done.stdout, done.stderr), (0, "", ""))


if __name__ == "__main__":
    unittest.main()
