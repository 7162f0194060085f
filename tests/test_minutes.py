"""What minutes answers: how many are noted, then of each player theirs and if they're out of the game."""
import unittest

from tests.helper import (DOUBLE, EXPELLED, MAJOR, MATCH, MINOR, MISCONDUCT, ask, begin, clock, goal, last, minors,
                          minutes, signal, stop)


class Kinds(unittest.TestCase):

    def test_none(self):
        self.assertEqual(ask(begin(), minutes(0), minutes(1))[1:], [[0], [0]])
        self.assertEqual(ask(begin(), goal(5, 0), clock(6000), stop(6000), minutes(0))[4], [0])

    def test_each_kind(self):
        for kind, noted, out in ((MINOR, 2, 0), (MAJOR, 5, 0), (MISCONDUCT, 10, 0), (DOUBLE, 4, 0), (MATCH, 25, 1),
                                 (EXPELLED, 20, 1)):
            for team in (0, 1):
                calls = (begin(), stop(10, (team, 7, kind)))
                self.assertEqual(ask(*calls, minutes(team), minutes(1 - team))[2:], [[noted, 7, noted, out], [0]])

    def test_players_0_and_99(self):
        self.assertEqual(last(begin(), stop(0, (0, 99, MINOR), (0, 0, MAJOR)), minutes(0)), [7, 99, 2, 0, 0, 5, 0])

    def test_a_player_with_several(self):
        calls = (begin(), stop(0, (0, 1, MINOR), (0, 2, MAJOR), (0, 1, DOUBLE)), stop(50, (0, 1, MISCONDUCT)))
        self.assertEqual(last(*calls, minutes(0)), [21, 1, 16, 0, 2, 5, 0])

    def test_all_kinds_of_one_player_at_once(self):
        calls = (begin(), stop(0, *[(1, 3, kind) for kind in range(6)]))
        self.assertEqual(last(*calls, minutes(1)), [66, 3, 66, 1])

    def test_both_teams_apart(self):
        calls = (begin(), stop(0, (0, 1, MINOR), (1, 1, MAJOR), (1, 2, EXPELLED)))
        self.assertEqual(ask(*calls, minutes(0), minutes(1))[2:], [[2, 1, 2, 0], [25, 1, 5, 0, 2, 20, 1]])

    def test_numbers_are_plain_whole_numbers(self):
        answer = last(begin(), stop(0, (0, 1, MATCH), (0, 2, MINOR)), minutes(0))
        self.assertEqual({number.__class__ for number in answer}, {int})


class Order(unittest.TestCase):

    def test_in_which_players_got_their_first(self):
        calls = (begin(), stop(0, (0, 9, MINOR), (0, 4, MINOR)), stop(10, (0, 6, MINOR)), stop(20, (0, 4, MINOR)),
                 stop(30, (0, 1, MINOR), (0, 9, MINOR)))
        self.assertEqual(last(*calls, minutes(0)), [12, 9, 4, 0, 4, 4, 0, 6, 2, 0, 1, 2, 0])

    def test_those_signalled_ahead_of_those_told_at_the_stop(self):
        calls = (begin(), signal(0, 5, MINOR), stop(0, (0, 3, MINOR)))
        self.assertEqual(last(*calls, minutes(0)), [4, 5, 2, 0, 3, 2, 0])

    def test_when_they_come_and_not_when_they_are_signalled(self):
        # Player 5's minor is gone by the goal, so that 3 got the first ahead of them.
        calls = (begin(), signal(1, 5, MINOR), signal(1, 3, MINOR), goal(0, 0), stop(0, (1, 5, MAJOR)))
        self.assertEqual(last(*calls, minutes(1)), [7, 3, 2, 0, 5, 5, 0])

    def test_twenty_players(self):
        calls = (begin(), stop(0, *[(0, 50 - player, EXPELLED) for player in range(20)]))
        self.assertEqual(last(*calls, minutes(0)), [400] + [n for k in range(20) for n in (50 - k, 20, 1)])

    def test_a_hundred_players(self):
        told = [(1, player, EXPELLED) for player in range(100)]
        calls = [stop(0, *told[first:first + 20]) for first in range(0, 100, 20)]
        self.assertEqual(last(begin(), *calls, minutes(1)), [2000] + [n for k in range(100) for n in (k, 20, 1)])


class When(unittest.TestCase):

    def test_canceled_ones_too(self):
        calls = (begin(), stop(0, (0, 1, MINOR), (1, 2, MINOR), (0, 3, MATCH), (1, 4, MAJOR)))
        self.assertEqual(ask(*calls, minutes(0), minutes(1))[2:], [[27, 1, 2, 0, 3, 25, 1], [7, 2, 2, 0, 4, 5, 0]])

    def test_those_that_wait_and_those_that_are_over_too(self):
        calls = (begin(), stop(0, *minors(0, (1, 2, 3))))
        for time in (0, 120, 6000):
            self.assertEqual(last(*calls, clock(time), minutes(0)), [6, 1, 2, 0, 2, 2, 0, 3, 2, 0])

    def test_one_that_a_goal_ends_stays_noted(self):
        calls = (begin(), stop(0, (0, 1, MINOR)), goal(10, 1))
        self.assertEqual(ask(*calls, minutes(0))[2:], [[1, 1, 5, 5], [2, 1, 2, 0]])
        calls = (begin(), stop(0, (0, 1, DOUBLE)), goal(10, 1), goal(11, 1))
        self.assertEqual(last(*calls, minutes(0)), [4, 1, 4, 0])

    def test_what_is_signalled_is_not_noted_until_it_comes(self):
        for kind, noted, out in ((MINOR, 2, 0), (MATCH, 25, 1), (EXPELLED, 20, 1)):
            calls = (begin(), signal(0, 1, kind), minutes(0), clock(500), minutes(0), stop(500), minutes(0))
            self.assertEqual(ask(*calls)[2::2], [[0], [0], [noted, 1, noted, out]])

    def test_what_is_signalled_comes_by_a_goal_too(self):
        calls = (begin(), signal(0, 1, MINOR), signal(1, 2, MAJOR), goal(5, 0), minutes(0), minutes(1))
        self.assertEqual(ask(*calls)[4:], [[2, 1, 2, 0], [5, 2, 5, 0]])

    def test_a_minor_that_is_gone_is_not_noted(self):
        calls = (begin(), signal(1, 1, MINOR), goal(5, 0), minutes(1), minutes(0))
        self.assertEqual(ask(*calls)[3:], [[0], [0]])

    def test_a_double_minor_of_which_one_was_gone_is_a_minor(self):
        calls = (begin(), signal(1, 1, DOUBLE), signal(1, 2, DOUBLE), goal(5, 0), minutes(1))
        self.assertEqual(last(*calls), [6, 1, 2, 0, 2, 4, 0])

    def test_a_refused_call_notes_nothing(self):
        for refused in (stop(4, (0, 1, MINOR)), stop(5, (0, 1, MINOR), (0, 1, 6)), stop(5, *[(0, 1, MINOR)] * 13),
                        stop(5, (0, 1, MINOR), (0, 9, MINOR)), signal(0, 9, MINOR), goal(5, 2)):
            calls = (begin(), stop(5, (0, 9, EXPELLED)), signal(0, 2, MINOR), refused, minutes(0))
            self.assertEqual(last(*calls), [20, 9, 20, 1], refused)


class Out(unittest.TestCase):

    def test_the_third_major(self):
        calls = (begin(), stop(0, (0, 1, MAJOR)), minutes(0), stop(400, (0, 1, MAJOR)), minutes(0),
                 stop(800, (0, 1, MAJOR)), minutes(0))
        self.assertEqual(ask(*calls)[2::2], [[5, 1, 5, 0], [10, 1, 10, 0], [15, 1, 15, 1]])

    def test_three_at_once(self):
        self.assertEqual(last(begin(), stop(0, *[(0, 1, MAJOR)] * 3), minutes(0)), [15, 1, 15, 1])
        self.assertEqual(last(begin(), stop(0, *[(0, 1, MAJOR)] * 4), minutes(0)), [20, 1, 20, 1])

    def test_canceled_ones_too(self):
        calls = (begin(), stop(0, *[(team, 1, MAJOR) for team in (0, 1)] * 3))
        self.assertEqual(ask(*calls, minutes(0), minutes(1))[2:], [[15, 1, 15, 1], [15, 1, 15, 1]])

    def test_the_third_that_is_signalled(self):
        calls = (begin(), stop(0, *[(0, 1, MAJOR)] * 2), signal(0, 1, MAJOR), minutes(0), goal(0, 0), minutes(0))
        self.assertEqual(ask(*calls)[3::2], [[10, 1, 10, 0], [15, 1, 15, 1]])

    def test_one_who_is_out_stays_out(self):
        for kind, noted in ((MATCH, 25), (EXPELLED, 20)):
            calls = (begin(), stop(0, (0, 1, kind)), clock(6000), minutes(0))
            self.assertEqual(last(*calls), [noted, 1, noted, 1])

    def test_others_are_not(self):
        calls = (begin(), stop(0, (0, 1, MAJOR), (0, 1, MAJOR), (0, 2, MAJOR), (1, 1, MAJOR), (1, 1, MATCH)),
                 stop(0, (0, 3, DOUBLE), (0, 3, DOUBLE), (0, 3, DOUBLE), (0, 4, MISCONDUCT)))
        self.assertEqual(ask(*calls, minutes(0), minutes(1))[3:],
                         [[37, 1, 10, 0, 2, 5, 0, 3, 12, 0, 4, 10, 0], [30, 1, 30, 1]])

    def test_who_is_out_is_refused_and_who_is_not_is_taken(self):
        told = [(0, 1, MATCH), (0, 2, MAJOR), (0, 3, EXPELLED), (0, 4, DOUBLE), (0, 5, MINOR), (0, 2, MAJOR),
                (0, 6, MAJOR), (0, 6, MAJOR), (0, 6, MAJOR)]
        calls = (begin(), stop(0, *told), clock(2000))
        shown = last(*calls, minutes(0))
        for k in range(1, len(shown), 3):
            self.assertEqual(last(*calls, signal(0, shown[k], MINOR)), [-4 if shown[k + 2] else 1])
        self.assertEqual([shown[k] for k in range(1, len(shown), 3) if shown[k + 2]], [1, 3, 6])


if __name__ == "__main__":
    unittest.main()
