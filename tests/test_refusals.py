"""Promises 2 and 3: the refusals of clock, stop, goal, box, minutes and till; each leaves everything as it was."""
import unittest

from tests.helper import (DOUBLE, EXPELLED, LARGEST, MAJOR, MATCH, MINOR, MISCONDUCT, SMALLEST, all_shown, ask, begin,
                          box, clock, goal, last, minors, minutes, signal, stop, stop_row, till)

# A game at second 100: two against team 0, one waiting behind them, one signalled against team 1.
BEFORE = (begin(6), stop(100, (0, 1, MINOR), (0, 2, MAJOR), (0, 3, MINOR), (1, 9, EXPELLED)), signal(1, 4, MINOR))
# What shows all of it: time, what is left to serve, who waits, what is signalled and who is out.
AFTER = (*all_shown(), clock(99), clock(100), clock(219), clock(220), signal(1, 9, MINOR), stop(339), clock(340),
         clock(399), clock(400), clock(459), *all_shown())
SHOWN = ask(*BEFORE, *AFTER)[len(BEFORE):]


class Unchanged(unittest.TestCase):

    def refused(self, call, refusal):
        answered = ask(*BEFORE, call, *AFTER)
        self.assertEqual(answered[len(BEFORE)], [refusal], call)
        self.assertEqual(answered[len(BEFORE) + 1:], SHOWN, call)


class Shown(unittest.TestCase):

    def test_what_shows_that_nothing_changed(self):
        self.assertEqual(SHOWN, [[100, 4, 6, 0, 0, 1],
                                 [3, 1, 0, 120, 1, 1, 2, 1, 300, 1, 1, 3, 0, 120, 1, 0], [0],
                                 [9, 1, 2, 0, 2, 5, 0, 3, 2, 0], [20, 9, 20, 1],
                                 [3, 1, 220, 2, 400, 3, 340], [0],
                                 [-1], [0, 4, 6], [0, 4, 6], [0, 4, 6], [-4], [1, 4, 5], [0, 5, 5], [0, 5, 5],
                                 [0, 6, 5], [0, 6, 6],
                                 [459, 6, 6, 0, 0, 0], [0], [0], [9, 1, 2, 0, 2, 5, 0, 3, 2, 0],
                                 [22, 9, 20, 1, 4, 2, 0], [0], [0]])


class Time(Unchanged):

    def test_clock(self):
        for time in (99, 0, -1, SMALLEST, 6001, LARGEST):
            self.refused(clock(time), -1)

    def test_stop(self):
        for time in (99, 0, -1, SMALLEST, 6001, LARGEST):
            self.refused(stop(time), -1)
            self.refused(stop(time, (0, 5, MINOR)), -1)

    def test_goal(self):
        for time in (99, 0, -1, SMALLEST, 6001, LARGEST):
            for team in (0, 1):
                self.refused(goal(time, team), -1)

    def test_the_time_it_is_now_is_taken(self):
        self.assertEqual(last(*BEFORE, clock(100)), [0, 4, 6])
        self.assertEqual(last(*BEFORE, stop(100)), [1, 4, 5])
        self.assertEqual(last(*BEFORE, goal(100, 0)), [2, -1, 4, 6])

    def test_6000_is_taken_and_6001_is_not(self):
        self.assertEqual(ask(begin(), clock(6000), clock(6000), clock(6001)), [[0], [0, 5, 5], [0, 5, 5], [-1]])
        self.assertEqual(ask(begin(), stop(6000), stop(6001)), [[0], [0, 5, 5], [-1]])
        self.assertEqual(ask(begin(), goal(6000, 1), goal(6001, 1)), [[0], [0, -1, 5, 5], [-1]])

    def test_second_0_is_taken_at_the_beginning_and_none_before_it(self):
        self.assertEqual(ask(begin(), clock(-1), clock(0)), [[0], [-1], [0, 5, 5]])
        self.assertEqual(ask(begin(), stop(-1), stop(0)), [[0], [-1], [0, 5, 5]])
        self.assertEqual(ask(begin(), goal(-1, 0), goal(0, 0)), [[0], [-1], [0, -1, 5, 5]])

    def test_each_call_that_tells_a_time_moves_the_time(self):
        for call in (clock(50), stop(50), goal(50, 0)):
            self.assertEqual(ask(begin(), call, clock(49), clock(50))[2:], [[-1], [0, 5, 5]])


class StopList(Unchanged):

    def test_not_three_numbers_for_each_penalty(self):
        for row in ([0], [0, 5], [0, 5, 0, 1], [0, 5, 0, 1, 6], [0] * 59, [0] * 58):
            self.refused(stop_row(100, row), -1)

    def test_the_empty_list(self):
        self.assertEqual(ask(begin(), stop(7), clock(6)), [[0], [0, 5, 5], [-1]])

    def test_team(self):
        for team in (-1, 2, SMALLEST, LARGEST):
            self.refused(stop(100, (team, 5, MINOR)), -1)
            self.refused(stop(100, (0, 5, MINOR), (1, 5, MINOR), (team, 5, MINOR)), -1)
        self.assertEqual(last(begin(), stop(0, (0, 5, MINOR))), [1, 4, 5])
        self.assertEqual(last(begin(), stop(0, (1, 5, MINOR))), [1, 5, 4])

    def test_player(self):
        for player in (-1, 100, SMALLEST, LARGEST):
            self.refused(stop(100, (0, player, MINOR)), -1)
            self.refused(stop(100, (0, 5, MINOR), (1, player, MINOR)), -1)
        for player in (0, 99):
            self.assertEqual(last(begin(), stop(0, (0, player, MINOR))), [1, 4, 5])

    def test_kind(self):
        for kind in (-1, 6, SMALLEST, LARGEST):
            self.refused(stop(100, (0, 5, kind)), -1)
            self.refused(stop(100, (0, 5, MINOR), (1, 5, kind)), -1)
        self.assertEqual(last(begin(), stop(0, (0, 5, 0))), [1, 4, 5])
        self.assertEqual(last(begin(), stop(0, (0, 5, 5))), [1, 5, 5])

    def test_one_who_was_out_ahead_of_the_call(self):
        for kind in range(6):
            self.refused(stop(100, (1, 9, kind)), -4)
            self.refused(stop(6000, (0, 5, MINOR), (1, 9, kind)), -4)

    def test_the_same_player_number_of_the_other_team_is_somebody_else(self):
        self.assertEqual(last(begin(), stop(0, (1, 9, EXPELLED)), stop(0, (0, 9, MINOR))), [1, 4, 5])

    def test_one_who_is_out_by_this_very_call_may_be_told_of_again(self):
        for kind in (MATCH, EXPELLED):
            answered = ask(begin(), stop(0, (0, 9, kind), (0, 9, MINOR), (0, 9, kind)), stop(0, (0, 9, MINOR)))
            self.assertEqual(answered[1:], [[3, 4, 5], [-4]])


class Twelve(Unchanged):

    def test_twelve_are_taken_and_thirteen_are_not(self):
        for team in (0, 1):
            self.assertEqual(last(begin(), stop(0, *minors(team, range(12))))[0], 12)
            self.assertEqual(ask(begin(), stop(0, *minors(team, range(13))), clock(0))[1:], [[-5], [0, 5, 5]])

    def test_each_team_has_twelve_of_its_own(self):
        both = minors(0, range(10)) + minors(1, range(10))
        answered = ask(begin(), stop(0, *both), stop(0, (0, 1, MINOR), (0, 2, MAJOR), (1, 1, MINOR), (1, 2, MAJOR)),
                       stop(0, (1, 3, MISCONDUCT)), stop(0, (0, 3, MISCONDUCT)))
        self.assertEqual(answered[1:], [[20, 5, 5], [4, 5, 5], [-5], [-5]])

    def test_of_those_there_already(self):
        eleven = stop(0, *minors(0, range(11)))
        self.assertEqual(ask(begin(), eleven, stop(0, (0, 20, MINOR)), stop(0, (0, 21, MINOR)))[2:],
                         [[1, 3, 5], [-5]])
        self.refused(stop(100, *minors(0, range(10, 20))), -5)
        self.assertEqual(last(*BEFORE, stop(100, *minors(0, range(10, 19))))[0], 10)

    def test_a_double_minor_is_two(self):
        six = [(1, player, DOUBLE) for player in range(6)]
        self.assertEqual(ask(begin(), stop(0, *six), stop(0, (1, 20, MINOR)))[1:], [[6, 5, 3], [-5]])
        eleven = stop(0, *minors(1, range(11)))
        self.assertEqual(last(begin(), eleven, stop(0, (1, 20, DOUBLE))), [-5])

    def test_majors_misconducts_and_matches_are_one_each(self):
        for kind in (MAJOR, MISCONDUCT, MATCH):
            told = [(0, player, kind) for player in range(13)]
            self.assertEqual(ask(begin(), stop(0, *told), stop(0, *told[:12]))[1:],
                             [[-5], [12, 5 if kind == MISCONDUCT else 3, 5]])

    def test_kind_5_is_none(self):
        told = minors(0, range(12)) + [(0, 40, EXPELLED), (0, 41, EXPELLED)]
        self.assertEqual(ask(begin(), stop(0, *told), stop(0, (0, 42, EXPELLED)))[1:], [[14, 3, 5], [1, 3, 5]])
        self.assertEqual(last(begin(), stop(0, *[(0, player, EXPELLED) for player in range(20)])), [20, 5, 5])

    def test_canceled_ones_are_among_the_twelve(self):
        both = minors(0, range(10)) + minors(1, range(10))
        self.assertEqual(last(begin(), stop(0, *both), stop(0, (0, 30, DOUBLE), (0, 31, MINOR))), [-5])

    def test_what_is_over_at_the_time_told_is_none_of_them(self):
        full = stop(0, *minors(0, range(12)))
        answered = ask(begin(), full, stop(119, (0, 20, MINOR)), stop(120, *minors(0, (20, 21, 22))),
                       stop(120, *minors(0, (20, 21))))
        self.assertEqual(answered[2:], [[-5], [-5], [2, 3, 5]])

    def test_a_refusal_for_too_many_does_not_move_the_time(self):
        answered = ask(begin(), stop(0, *minors(0, range(12))), stop(60, (0, 20, MINOR)), clock(59))
        self.assertEqual(answered[2:], [[-5], [0, 3, 5]])

    def test_what_is_signalled_is_among_those_at_a_stop(self):
        answered = ask(begin(), stop(0, *minors(0, range(10))), signal(0, 30, DOUBLE), stop(0, (0, 31, MINOR)),
                       stop(0, (0, 31, EXPELLED)))
        self.assertEqual(answered[2:], [[1], [-5], [2, 3, 5]])


class Several(Unchanged):
    """Of several refusals that fit, the one told first."""

    def test_wrong_ahead_of_out(self):
        self.refused(stop(99, (1, 9, MINOR)), -1)
        self.refused(stop(6001, (1, 9, MINOR)), -1)
        self.refused(stop_row(100, [1, 9, MINOR, 0]), -1)
        self.refused(stop(100, (1, 9, MINOR), (0, 5, 6)), -1)
        self.refused(stop(100, (1, 9, MINOR), (2, 5, MINOR)), -1)
        self.refused(stop(100, (1, 9, 6)), -1)

    def test_wrong_ahead_of_too_many(self):
        many = minors(0, range(10, 23))
        self.refused(stop(99, *many), -1)
        self.refused(stop(6001, *many), -1)
        self.refused(stop(100, *many, (0, 100, MINOR)), -1)

    def test_out_ahead_of_too_many(self):
        self.refused(stop(100, *minors(0, range(10, 23)), (1, 9, MINOR)), -4)

    def test_all_three(self):
        self.refused(stop(100, *minors(0, range(10, 23)), (1, 9, MINOR), (0, 0, -1)), -1)


class GoalTeam(Unchanged):

    def test_a_team_that_is_neither(self):
        for team in (-1, 2, SMALLEST, LARGEST):
            self.refused(goal(100, team), -1)
            self.refused(goal(3000, team), -1)
            self.refused(goal(99, team), -1)


class TeamAsked(Unchanged):
    """Promise 3, of box, minutes and till."""

    def test_a_team_that_is_neither(self):
        for team in (-1, 2, SMALLEST, LARGEST):
            for asked in (box, minutes, till):
                self.refused(asked(team), -1)
                self.assertEqual(last(begin(), asked(team)), [-1])

    def test_both_teams_are_taken(self):
        for team in (0, 1):
            for asked in (box, minutes, till):
                self.assertEqual(last(begin(), asked(team)), [0])


if __name__ == "__main__":
    unittest.main()
