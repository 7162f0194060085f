"""Promise 2 and the words of a goal: what it answers, what it ends, what comes by it."""
import unittest

from tests.helper import (DOUBLE, EXPELLED, MAJOR, MATCH, MINOR, MISCONDUCT, ask, begin, clock, goal, last, signal,
                          stop)


class Strength(unittest.TestCase):

    def test_as_many_skaters(self):
        self.assertEqual(last(begin(), goal(10, 0)), [0, -1, 5, 5])
        self.assertEqual(last(begin(), goal(10, 1)), [0, -1, 5, 5])

    def test_more_skaters(self):
        self.assertEqual(last(begin(), stop(0, (1, 7, MINOR)), goal(10, 0)), [1, 7, 5, 5])
        self.assertEqual(last(begin(), stop(0, (0, 7, MINOR)), goal(10, 1)), [1, 7, 5, 5])

    def test_fewer_skaters(self):
        self.assertEqual(last(begin(), stop(0, (1, 7, MINOR)), goal(10, 1)), [2, -1, 5, 4])
        self.assertEqual(last(begin(), stop(0, (0, 7, MINOR)), goal(10, 0)), [2, -1, 4, 5])

    def test_as_many_with_a_minor_each_ends_none(self):
        calls = (begin(), stop(0, (1, 7, MINOR)), stop(0, (0, 8, MINOR)))
        self.assertEqual(last(*calls, goal(10, 0)), [0, -1, 4, 4])
        self.assertEqual(last(*calls, goal(10, 1)), [0, -1, 4, 4])

    def test_it_is_told_as_it_was_ahead_of_what_comes(self):
        self.assertEqual(last(begin(), signal(0, 1, MAJOR), goal(10, 0)), [0, -1, 4, 5])

    def test_of_three_skaters_none_is_missing(self):
        self.assertEqual(last(begin(3), stop(0, (1, 7, MINOR), (1, 8, MINOR)), goal(10, 0)), [0, -1, 3, 3])

    def test_of_four_skaters_a_second_that_runs_is_missed_no_more(self):
        calls = (begin(4), stop(0, (1, 7, MINOR), (1, 8, MINOR)), stop(0, (0, 5, MINOR)))
        self.assertEqual(last(*calls, goal(10, 0)), [0, -1, 3, 3])

    def test_the_time_is_that_of_the_goal(self):
        self.assertEqual(ask(begin(), goal(10, 0), clock(9), clock(10))[2:], [[-1], [0, 5, 5]])

    def test_one_goal_behind_another(self):
        calls = (begin(), stop(0, (1, 7, MINOR), (1, 8, MINOR)), goal(10, 0), goal(10, 0), goal(10, 0))
        self.assertEqual(ask(*calls)[2:], [[1, 7, 5, 4], [1, 8, 5, 5], [0, -1, 5, 5]])


class Ended(unittest.TestCase):

    def test_the_one_with_the_least_left(self):
        calls = (begin(), stop(0, (1, 7, MAJOR)), stop(10, (1, 8, MINOR)))
        self.assertEqual(last(*calls, goal(20, 0)), [1, 8, 5, 4])
        calls = (begin(6), stop(0, (1, 7, MISCONDUCT), (1, 7, MINOR), (1, 9, MINOR)), stop(550, (1, 8, MINOR)))
        # Player 7's stands first, but has 120 left at 600, and player 8's 70.
        self.assertEqual(last(*calls, goal(600, 0)), [1, 8, 6, 5])

    def test_the_first_of_equal_ones(self):
        self.assertEqual(last(begin(), stop(0, (1, 8, MINOR), (1, 7, MINOR)), goal(10, 0)), [1, 8, 5, 4])
        calls = (begin(6), stop(0, (1, 7, MISCONDUCT), (1, 7, MINOR)), stop(600, (1, 3, MINOR)))
        self.assertEqual(last(*calls, goal(600, 0)), [1, 7, 6, 5])

    def test_of_two_told_at_different_times_the_older(self):
        calls = (begin(), stop(0, (1, 8, MINOR)), stop(1, (1, 7, MINOR)))
        self.assertEqual(ask(*calls, goal(50, 0), clock(120), clock(121))[3:], [[1, 8, 5, 4], [0, 5, 4], [0, 5, 5]])

    def test_no_major_is_ended(self):
        for kind in (MAJOR, MATCH):
            calls = (begin(), stop(0, (1, 8, kind)), goal(290, 0), clock(299), clock(300))
            self.assertEqual(ask(*calls)[2:], [[1, -1, 5, 4], [0, 5, 4], [0, 5, 5]])

    def test_a_major_with_less_left_is_passed_over(self):
        calls = (begin(), stop(0, (1, 8, MAJOR)), stop(250, (1, 7, MINOR)))
        self.assertEqual(last(*calls, goal(290, 0)), [1, 7, 5, 4])

    def test_a_minor_that_does_not_count_is_passed_over(self):
        calls = (begin(), stop(0, (0, 1, MINOR), (1, 8, MINOR)), stop(50, (1, 7, MINOR)))
        self.assertEqual(last(*calls, goal(100, 0)), [1, 7, 5, 5])
        calls = (begin(), stop(0, (0, 1, MINOR), (1, 8, MINOR)), stop(50, (1, 7, MAJOR)))
        self.assertEqual(last(*calls, goal(100, 0)), [1, -1, 5, 4])

    def test_a_minor_that_waits_is_passed_over(self):
        calls = (begin(), stop(0, (1, 7, MAJOR), (1, 8, MAJOR), (1, 9, MINOR)))
        self.assertEqual(last(*calls, goal(100, 0)), [1, -1, 5, 3])
        calls = (begin(), stop(0, (1, 7, MAJOR), (1, 7, MINOR)))
        self.assertEqual(last(*calls, goal(100, 0)), [1, -1, 5, 4])

    def test_a_misconduct_is_passed_over(self):
        calls = (begin(), stop(0, (1, 7, MISCONDUCT)), stop(590, (1, 8, MAJOR)))
        self.assertEqual(last(*calls, goal(595, 0)), [1, -1, 5, 4])

    def test_of_a_double_minor_the_one_that_runs(self):
        calls = (begin(), stop(0, (1, 7, DOUBLE)), goal(50, 0), clock(169), clock(170))
        self.assertEqual(ask(*calls)[2:], [[1, 7, 5, 4], [0, 5, 4], [0, 5, 5]])
        calls = (begin(), stop(0, (1, 7, DOUBLE)), goal(150, 0))
        self.assertEqual(ask(*calls)[2], [1, 7, 5, 5])

    def test_one_that_waited_runs_from_the_goal_on(self):
        calls = (begin(), stop(0, (1, 7, MINOR), (1, 8, MAJOR), (1, 9, MINOR)), goal(30, 0), clock(149), clock(150))
        self.assertEqual(ask(*calls)[2:], [[1, 7, 5, 3], [0, 5, 3], [0, 5, 4]])

    def test_the_scoring_team_s_own_stay(self):
        calls = (begin(), stop(0, (0, 1, MINOR)), stop(0, (1, 7, MINOR), (1, 8, MINOR)), goal(30, 0))
        self.assertEqual(ask(*calls)[3], [1, 7, 4, 4])

    def test_player_0_and_99_are_told(self):
        for player in (0, 99):
            self.assertEqual(last(begin(), stop(0, (1, player, MINOR)), goal(1, 0)), [1, player, 5, 5])


class Coming(unittest.TestCase):

    def test_what_is_signalled_comes_by_a_goal(self):
        calls = (begin(), signal(0, 1, MAJOR), signal(1, 2, MATCH), signal(0, 3, EXPELLED), signal(0, 4, MINOR),
                 goal(50, 0), signal(0, 3, MINOR), signal(1, 2, MINOR), stop(50), clock(169), clock(170))
        self.assertEqual(ask(*calls)[5:], [[0, -1, 4, 5], [-4], [-4], [0, 4, 5], [0, 4, 5], [0, 5, 5]])

    def test_nothing_is_signalled_behind_it(self):
        calls = (begin(), signal(0, 1, MINOR), signal(0, 2, MINOR), goal(50, 0), signal(0, 3, MINOR))
        self.assertEqual(ask(*calls)[3:], [[0, -1, 3, 5], [1]])

    def test_the_first_minor_against_the_other_team_is_gone(self):
        calls = (begin(), signal(1, 7, MINOR), goal(50, 0), stop(50))
        self.assertEqual(ask(*calls)[2:], [[0, -1, 5, 5], [0, 5, 5]])

    def test_so_it_is_whichever_team_scores(self):
        calls = (begin(), signal(1, 7, MINOR), signal(0, 7, MINOR), goal(50, 1))
        self.assertEqual(last(*calls), [0, -1, 5, 4])
        calls = (begin(), signal(1, 7, MINOR), signal(0, 7, MINOR), goal(50, 0))
        self.assertEqual(last(*calls), [0, -1, 4, 5])
        calls = (begin(), signal(0, 7, DOUBLE), goal(50, 1), clock(169), clock(170))
        self.assertEqual(ask(*calls)[2:], [[0, -1, 4, 5], [0, 4, 5], [0, 5, 5]])

    def test_only_the_first(self):
        calls = (begin(), signal(1, 7, MINOR), signal(1, 8, MINOR), goal(50, 0), goal(60, 0))
        self.assertEqual(ask(*calls)[3:], [[0, -1, 5, 4], [1, 8, 5, 5]])

    def test_those_against_the_scoring_team_stay(self):
        calls = (begin(), signal(0, 7, MINOR), signal(0, 8, DOUBLE), goal(50, 0))
        self.assertEqual(last(*calls), [0, -1, 3, 5])

    def test_others_ahead_of_the_first_minor_stay(self):
        calls = (begin(), signal(0, 7, MINOR), signal(1, 5, MAJOR), signal(1, 6, MISCONDUCT), signal(1, 9, MATCH),
                 signal(1, 4, EXPELLED), signal(1, 8, MINOR), goal(50, 0), clock(170), clock(350))
        self.assertEqual(ask(*calls)[7:], [[0, -1, 4, 3], [0, 5, 3], [0, 5, 5]])

    def test_no_other_kind_is_gone(self):
        for kind, skaters in ((MAJOR, 4), (MISCONDUCT, 5), (MATCH, 4), (EXPELLED, 5)):
            self.assertEqual(last(begin(), signal(1, 7, kind), goal(50, 0)), [0, -1, 5, skaters])
            answered = ask(begin(), signal(1, 7, kind), goal(50, 0), stop(50, (1, 7, MINOR)))
            self.assertEqual(answered[3][0], -4 if kind in (MATCH, EXPELLED) else 1)

    def test_of_a_double_minor_one_of_the_two(self):
        calls = (begin(), signal(1, 7, DOUBLE), goal(50, 0), clock(169), clock(170))
        self.assertEqual(ask(*calls)[2:], [[0, -1, 5, 4], [0, 5, 4], [0, 5, 5]])

    def test_a_double_minor_ahead_of_a_minor_is_the_first(self):
        calls = (begin(), signal(1, 7, DOUBLE), signal(1, 8, MINOR), goal(50, 0), clock(169), clock(170))
        self.assertEqual(ask(*calls)[3:], [[0, -1, 5, 3], [0, 5, 3], [0, 5, 5]])

    def test_what_is_left_of_a_double_minor_keeps_its_place(self):
        calls = (begin(6), signal(1, 7, DOUBLE), signal(1, 8, MAJOR), signal(1, 9, MAJOR), goal(0, 0), clock(120),
                 clock(300), clock(419), clock(420))
        self.assertEqual(ask(*calls)[4:], [[0, -1, 6, 4], [0, 6, 4], [0, 6, 5], [0, 6, 5], [0, 6, 6]])

    def test_none_is_gone_where_a_minor_was_ended(self):
        calls = (begin(), stop(0, (1, 7, MINOR)), signal(1, 8, MINOR), goal(50, 0), clock(169), clock(170))
        self.assertEqual(ask(*calls)[3:], [[1, 7, 5, 4], [0, 5, 4], [0, 5, 5]])
        calls = (begin(), stop(0, (1, 7, MINOR)), signal(1, 8, DOUBLE), goal(50, 0), clock(289), clock(290))
        self.assertEqual(ask(*calls)[3:], [[1, 7, 5, 4], [0, 5, 4], [0, 5, 5]])

    def test_one_is_gone_where_the_other_team_has_but_majors(self):
        calls = (begin(), stop(0, (1, 7, MAJOR)), signal(1, 8, MINOR), goal(50, 0))
        self.assertEqual(last(*calls), [1, -1, 5, 4])

    def test_one_is_gone_where_the_scoring_team_has_fewer(self):
        calls = (begin(), stop(0, (0, 7, MINOR)), signal(1, 8, MINOR), goal(50, 0))
        self.assertEqual(last(*calls), [2, -1, 4, 5])

    def test_what_comes_by_a_goal_cancels_without_what_is_gone(self):
        calls = (begin(), signal(0, 1, MINOR), signal(1, 7, MINOR), goal(50, 0))
        self.assertEqual(last(*calls), [0, -1, 4, 5])
        calls = (begin(), signal(0, 1, MINOR), signal(1, 7, DOUBLE), goal(50, 0))
        self.assertEqual(last(*calls), [0, -1, 5, 5])

    def test_a_minor_that_comes_by_the_goal_is_not_ended_by_it(self):
        calls = (begin(), stop(0, (1, 7, MAJOR)), signal(1, 8, MINOR), signal(1, 9, MINOR), goal(50, 0))
        self.assertEqual(last(*calls), [1, -1, 5, 3])

    def test_the_third_major_that_comes_by_a_goal_puts_one_out(self):
        calls = (begin(), stop(0, (0, 1, MAJOR), (0, 1, MAJOR)), signal(0, 1, MAJOR), goal(50, 1), signal(0, 1, MINOR))
        self.assertEqual(ask(*calls)[3:], [[1, -1, 4, 5], [-4]])

    def test_a_refused_goal_brings_nothing(self):
        for refused in (goal(49, 0), goal(6001, 0), goal(50, 2), goal(50, -1)):
            calls = (begin(), clock(50), signal(1, 8, MINOR), refused, signal(1, 9, MINOR), clock(50), stop(50))
            self.assertEqual(ask(*calls)[3:], [[-1], [2], [0, 5, 5], [2, 5, 3]])


if __name__ == "__main__":
    unittest.main()
