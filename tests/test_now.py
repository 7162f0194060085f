"""What now answers: the time, the skaters, the goals of both teams, how many are signalled."""
import unittest

from tests.helper import (DOUBLE, EXPELLED, LARGEST, MAJOR, MATCH, MINOR, MISCONDUCT, SMALLEST, all_shown, ask, begin,
                          clock, goal, last, minors, now, signal, stop)


class Beginning(unittest.TestCase):

    def test_a_new_game(self):
        for skaters in (3, 4, 5, 6):
            self.assertEqual(last(begin(skaters), now()), [0, skaters, skaters, 0, 0, 0])

    def test_a_game_begun_anew(self):
        calls = (begin(6), stop(50, (0, 1, MINOR)), goal(60, 0), goal(70, 1), signal(0, 2, MAJOR))
        self.assertEqual(last(*calls, begin(4), now()), [0, 4, 4, 0, 0, 0])

    def test_a_refused_begin(self):
        calls = (begin(6), goal(60, 1), signal(0, 2, MAJOR))
        for skaters in (2, 7):
            self.assertEqual(last(*calls, begin(skaters), now()), [60, 6, 6, 0, 1, 1])


class Time(unittest.TestCase):

    def test_behind_a_clock(self):
        self.assertEqual(last(begin(), clock(77), now()), [77, 5, 5, 0, 0, 0])
        self.assertEqual(last(begin(), clock(77), clock(77), clock(6000), now()), [6000, 5, 5, 0, 0, 0])

    def test_behind_a_stop(self):
        self.assertEqual(last(begin(), stop(78), now()), [78, 5, 5, 0, 0, 0])

    def test_behind_a_goal(self):
        self.assertEqual(last(begin(), goal(79, 1), now()), [79, 5, 5, 0, 1, 0])

    def test_a_signal_leaves_it(self):
        self.assertEqual(last(begin(), clock(80), signal(0, 1, MINOR), now()), [80, 5, 5, 0, 0, 1])

    def test_a_refused_call_leaves_it(self):
        for refused in (clock(79), clock(6001), stop(79), stop(6001), stop(90, (2, 1, MINOR)),
                        stop(90, *minors(0, range(13))), goal(79, 0), goal(6001, 0), goal(90, 2)):
            self.assertEqual(last(begin(), clock(80), refused, now()), [80, 5, 5, 0, 0, 0], refused)


class Skaters(unittest.TestCase):

    def test_those_of_both_teams_behind_a_stop(self):
        calls = (begin(6), stop(0, (0, 1, MINOR), (0, 2, MAJOR), (0, 3, MAJOR), (1, 4, MISCONDUCT), (1, 5, MATCH)))
        # Player 2's major and the match penalty cancel one another, so player 3's runs beside player 1's minor.
        self.assertEqual(ask(*calls, now(), clock(120), now(), clock(300), now())[2::2],
                         [[0, 4, 6, 0, 0, 0], [120, 5, 6, 0, 0, 0], [300, 6, 6, 0, 0, 0]])

    def test_never_fewer_than_three(self):
        self.assertEqual(last(begin(4), stop(0, *minors(1, range(5))), now()), [0, 4, 3, 0, 0, 0])

    def test_as_many_as_the_call_ahead_told(self):
        calls = (begin(5), stop(10, (0, 1, DOUBLE), (1, 2, MINOR)), now(), clock(130), now(), goal(140, 1), now())
        self.assertEqual(ask(*calls)[1:], [[2, 5, 5], [10, 5, 5, 0, 0, 0], [0, 4, 5], [130, 4, 5, 0, 0, 0],
                                           [1, 1, 5, 5], [140, 5, 5, 0, 1, 0]])


class Goals(unittest.TestCase):

    def test_of_either_team(self):
        calls = (begin(), goal(1, 0), now(), goal(2, 1), now(), goal(2, 1), now(), goal(9, 0), now(), goal(9, 0), now())
        self.assertEqual(ask(*calls)[2::2], [[1, 5, 5, 1, 0, 0], [2, 5, 5, 1, 1, 0], [2, 5, 5, 1, 2, 0],
                                             [9, 5, 5, 2, 2, 0], [9, 5, 5, 3, 2, 0]])

    def test_with_as_many_more_and_fewer_skaters(self):
        calls = (begin(), stop(0, (1, 1, MAJOR)), goal(1, 0), goal(2, 1), goal(300, 1), now())
        self.assertEqual(ask(*calls)[2:], [[1, -1, 5, 4], [2, -1, 5, 4], [0, -1, 5, 5], [300, 5, 5, 1, 2, 0]])

    def test_a_refused_goal_is_none(self):
        for refused in (goal(4, 0), goal(6001, 1), goal(5, 2), goal(5, -1), goal(SMALLEST, 0), goal(LARGEST, 1),
                        goal(5, SMALLEST), goal(5, LARGEST)):
            self.assertEqual(last(begin(), goal(5, 0), refused, now()), [5, 5, 5, 1, 0, 0], refused)

    def test_a_goal_with_no_game_is_none(self):
        self.assertEqual(last(goal(0, 0), begin(), now()), [0, 5, 5, 0, 0, 0])

    def test_148_goals(self):
        self.assertEqual(last(begin(), *[goal(k, 1) for k in range(148)], now()), [147, 5, 5, 0, 148, 0])


class Signalled(unittest.TestCase):

    def test_how_many_of_both_teams(self):
        calls = (begin(), signal(0, 1, DOUBLE), now(), signal(1, 1, EXPELLED), now(), signal(0, 1, MINOR), now())
        self.assertEqual([answer[5] for answer in ask(*calls)[2::2]], [1, 2, 3])

    def test_a_clock_leaves_them(self):
        self.assertEqual(last(begin(), signal(0, 1, MINOR), clock(500), now()), [500, 5, 5, 0, 0, 1])

    def test_a_stop_and_a_goal_bring_them(self):
        self.assertEqual(last(begin(), signal(0, 1, MINOR), stop(5), now()), [5, 4, 5, 0, 0, 0])
        self.assertEqual(last(begin(), signal(0, 1, MINOR), goal(5, 0), now()), [5, 4, 5, 1, 0, 0])

    def test_one_that_is_gone_by_a_goal_is_none_of_them(self):
        self.assertEqual(last(begin(), signal(1, 1, MINOR), goal(5, 0), now()), [5, 5, 5, 1, 0, 0])

    def test_refused_calls_leave_them(self):
        for refused in (signal(0, 1, 6), signal(1, 9, MINOR), stop(4), goal(4, 0), goal(5, 2)):
            calls = (begin(), stop(5, (1, 9, EXPELLED)), signal(0, 1, MINOR), refused, now())
            self.assertEqual(last(*calls), [5, 5, 5, 0, 0, 1], refused)


class Asking(unittest.TestCase):

    CALLS = (begin(6), stop(10, (0, 1, DOUBLE), (0, 2, MATCH), (1, 3, MINOR), (0, 4, MAJOR), (1, 5, MISCONDUCT)),
             signal(1, 6, DOUBLE), clock(50), goal(60, 0), signal(0, 7, MINOR), stop(100, (1, 5, MINOR)),
             goal(140, 1), clock(420), stop(430, (0, 2, MINOR)), clock(1000))

    def test_none_of_the_four_changes_anything(self):
        plain = ask(*self.CALLS)
        for asked in all_shown():
            between = [call for one in self.CALLS for call in (one, asked, asked)]
            answered = ask(*between)
            self.assertEqual(answered[::3], plain, asked)
            self.assertEqual(answered[1::3], answered[2::3], asked)

    def test_all_of_them_between_all_calls(self):
        between = [call for one in self.CALLS for call in (one, *all_shown())]
        answered = ask(*between)
        self.assertEqual(answered[::8], ask(*self.CALLS))
        for k in range(len(self.CALLS)):
            self.assertEqual(answered[8 * k + 1:8 * k + 8], ask(*self.CALLS[:k + 1], *all_shown())[k + 1:])


if __name__ == "__main__":
    unittest.main()
