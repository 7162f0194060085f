"""The interface: how calls are read and answers told, and what is left as it was."""
import contextlib
import io
import unittest

from icepenalties.games import answers
from tests.helper import (DOUBLE, EXPELLED, MAJOR, MATCH, MINOR, MISCONDUCT, SMALLEST, LARGEST, all_shown, ask, begin,
                          box, clock, goal, minors, minutes, now, signal, stop, stop_row, till)

CALLS = (clock(0) + begin(6) + stop(5, (0, 1, MINOR), (1, 2, DOUBLE)) + signal(1, 3, MATCH) + stop_row(6, [0, 1])
         + goal(30, 0) + stop(40) + signal(0, 9, 6) + begin(7) + clock(41) + now() + box(0) + box(1) + minutes(0)
         + minutes(1) + till(0) + till(1) + box(2) + minutes(-1) + till(2) + begin(3) + stop(0, (0, 9, EXPELLED)))
TOLD = [1, -2, 1, 0, 3, 2, 6, 6, 1, 1, 1, -1, 4, 0, -1, 6, 5, 3, 0, 6, 5, 1, -1, 1, -1, 3, 0, 6, 5,
        6, 41, 6, 5, 1, 0, 0,
        6, 1, 1, 0, 84, 0, 1,
        16, 3, 2, 0, 84, 0, 1, 2, 0, 120, 1, 0, 3, 1, 289, 1, 1,
        4, 2, 1, 2, 0,
        7, 29, 2, 4, 0, 3, 25, 1,
        3, 1, 1, 125,
        7, 3, 2, 125, 2, 245, 3, 330,
        1, -1, 1, -1, 1, -1,
        1, 0, 3, 1, 3, 3]


class NeverChanged(list):
    """A list that fails when anything changes it."""

    def changed(self, *given, **named):
        raise AssertionError("what is handed in was changed")

    __setitem__ = __delitem__ = __iadd__ = __imul__ = changed
    append = extend = insert = pop = remove = clear = sort = reverse = changed


class Told(unittest.TestCase):

    def test_each_answer_has_how_many_numbers_it_has_before_it(self):
        self.assertEqual(answers(CALLS), TOLD)

    def test_one_call_alone(self):
        self.assertEqual(answers([1, 5]), [1, 0])
        self.assertEqual(answers([1, SMALLEST]), [1, -1])
        for call in all_shown():
            self.assertEqual(answers(call), [1, -2])

    def test_the_four_that_ask_behind_one_another(self):
        self.assertEqual(answers([1, 5, 6, 7, 0, 8, 1, 9, 0, 6]),
                         [1, 0, 6, 0, 5, 5, 0, 0, 0, 1, 0, 1, 0, 1, 0, 6, 0, 5, 5, 0, 0, 0])
        self.assertEqual(answers([1, 5, 3, 7, 3, 1, 8, 3, 6, 7, 1, 8, 1, 9, 1, 7, 6, 8, 7, 9, 8]),
                         [1, 0, 3, 1, 5, 4, 6, 7, 5, 4, 0, 0, 0, 11, 2, 8, 0, 120, 1, 1, 8, 0, 120, 1, 0,
                          4, 4, 8, 4, 0, 5, 2, 8, 127, 8, 247, 1, -1, 1, -1, 1, -1])

    def test_rows_of_any_length_are_read_over(self):
        for length in range(61):
            told = answers(begin() + stop_row(10, [7] * length) + clock(10))
            self.assertEqual(told, [1, 0] + ([3, 0, 5, 5] if length == 0 else [1, -1]) + [3, 0, 5, 5])

    def test_numbers_that_look_like_calls_are_read_as_what_they_are(self):
        self.assertEqual(answers(begin(3) + clock(3) + stop(5, (1, 3, 2), (1, 1, 5)) + goal(5, 1) + signal(1, 2, 3)),
                         [1, 0, 3, 0, 3, 3, 3, 2, 3, 3, 4, 0, -1, 3, 3, 1, 1])

    def test_a_list_of_plain_whole_numbers_is_given_back(self):
        told = answers(CALLS)
        self.assertIs(type(told), list)
        self.assertEqual({type(number) for number in told}, {int})

    def test_150_calls(self):
        calls = begin() + stop_row(0, [0, 1, MINOR] * 20) * 149
        self.assertEqual(answers(calls), [1, 0] + [1, -5] * 149)
        calls = begin() + signal(0, 1, EXPELLED) * 149
        self.assertEqual(answers(calls), [1, 0] + [number for k in range(1, 150) for number in (1, k)])

    def test_150_calls_that_ask(self):
        twenty = minors(0, range(10)) + [(1, player, MISCONDUCT) for player in range(10)]
        calls = begin() + stop(5, *twenty) + [number for call in all_shown() for number in call] * 21
        shown = ask(begin(), stop(5, *twenty), *all_shown())[2:]
        told = [number for answer in shown for number in [len(answer)] + answer]
        self.assertEqual(answers(calls + clock(5)), [1, 0, 3, 20, 3, 5] + told * 21 + [3, 0, 3, 5])
        self.assertEqual([len(answer) for answer in shown], [6, 51, 51, 31, 31, 21, 21])

    def test_a_stop_with_60_numbers(self):
        row = [number for k in range(10) for number in (0, k, MINOR, 1, 99 - k, MAJOR)]
        calls = begin(6) + stop_row(6000, row) + till(1) + minutes(0)
        self.assertEqual(len(row), 60)
        majors = [number for k in range(10) for number in (99 - k, 6300 + 300 * (k // 2))]
        noted = [number for k in range(10) for number in (k, 2, 0)]
        self.assertEqual(answers(calls), [1, 0, 3, 20, 4, 4, 21, 10] + majors + [31, 20] + noted)

    def test_the_ends_of_the_range(self):
        calls = begin(SMALLEST) + begin(LARGEST) + begin() + clock(SMALLEST) + clock(LARGEST)
        calls += stop_row(LARGEST, [SMALLEST, LARGEST, LARGEST]) + signal(SMALLEST, SMALLEST, SMALLEST)
        calls += goal(LARGEST, SMALLEST) + stop_row(0, [LARGEST] * 60) + box(SMALLEST) + box(LARGEST)
        calls += minutes(SMALLEST) + minutes(LARGEST) + till(SMALLEST) + till(LARGEST)
        self.assertEqual(answers(calls), [1, -1, 1, -1, 1, 0] + [1, -1] * 12)


class Left(unittest.TestCase):

    def test_what_is_handed_in_is_the_same_afterwards(self):
        calls = list(CALLS)
        answers(calls)
        self.assertEqual(calls, CALLS)

    def test_what_is_handed_in_is_not_changed_for_a_while_either(self):
        self.assertEqual(answers(NeverChanged(CALLS)), TOLD)

    def test_the_same_list_asked_twice_gives_the_same_answers(self):
        calls = list(CALLS)
        first = answers(calls)
        self.assertEqual(answers(calls), first)

    def test_what_is_given_back_is_not_what_was_given_back_before(self):
        answers(CALLS).append(7)
        self.assertEqual(answers(CALLS), TOLD)

    def test_nothing_is_kept_from_one_time_to_the_next(self):
        answers(begin() + stop(100, (0, 1, MATCH), (0, 2, MAJOR), (0, 3, MISCONDUCT)) + signal(0, 4, MINOR))
        self.assertEqual(answers(clock(0)), [1, -2])
        for call in all_shown():
            self.assertEqual(answers(call), [1, -2])
        self.assertEqual(ask(begin(), *all_shown())[1:], [[0, 5, 5, 0, 0, 0]] + [[0]] * 6)
        self.assertEqual(answers(begin() + stop(0, (0, 1, MINOR))), [1, 0, 3, 1, 4, 5])

    def test_nothing_is_printed(self):
        out, err = io.StringIO(), io.StringIO()
        with contextlib.redirect_stdout(out), contextlib.redirect_stderr(err):
            answers(CALLS)
        self.assertEqual((out.getvalue(), err.getvalue()), ("", ""))


if __name__ == "__main__":
    unittest.main()
