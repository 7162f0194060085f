"""Promise 3, of signal: its answer, its refusals, and when what is signalled comes."""
import unittest

from tests.helper import (DOUBLE, EXPELLED, LARGEST, MAJOR, MATCH, MINOR, MISCONDUCT, SMALLEST, ask, begin, clock,
                          goal, last, minors, signal, stop)


class Count(unittest.TestCase):

    def test_how_many_are_signalled_now(self):
        calls = (begin(), signal(0, 1, MINOR), signal(1, 1, DOUBLE), signal(0, 1, EXPELLED), signal(0, 1, MATCH))
        self.assertEqual(ask(*calls)[1:], [[1], [2], [3], [4]])

    def test_after_a_stop_and_a_goal_they_are_counted_anew(self):
        calls = (begin(), signal(0, 1, MINOR), signal(0, 2, MINOR), stop(0), signal(1, 3, MINOR), goal(0, 0),
                 signal(1, 4, MINOR))
        self.assertEqual([ask(*calls)[k] for k in (4, 6)], [[1], [1]])

    def test_a_clock_leaves_them(self):
        self.assertEqual(last(begin(), signal(0, 1, MINOR), clock(500), signal(0, 2, MINOR)), [2])


class Refusals(unittest.TestCase):

    def refused(self, call, refusal):
        calls = (begin(), stop(0, (0, 9, EXPELLED)), signal(0, 1, MINOR), call, signal(1, 2, MAJOR), stop(10))
        self.assertEqual(ask(*calls)[3:], [[refusal], [2], [2, 4, 4]], call)

    def taken(self, call):
        self.assertEqual(last(begin(), stop(0, (0, 9, EXPELLED)), call), [1], call)

    def test_team(self):
        for team in (-1, 2, SMALLEST, LARGEST):
            self.refused(signal(team, 1, MINOR), -1)
        for team in (0, 1):
            self.taken(signal(team, 1, MINOR))

    def test_player(self):
        for player in (-1, 100, SMALLEST, LARGEST):
            self.refused(signal(0, player, MINOR), -1)
        for player in (0, 99):
            self.taken(signal(0, player, MINOR))

    def test_kind(self):
        for kind in (-1, 6, SMALLEST, LARGEST):
            self.refused(signal(0, 1, kind), -1)
        for kind in range(6):
            self.taken(signal(0, 1, kind))

    def test_one_who_is_out(self):
        for kind in range(6):
            self.refused(signal(0, 9, kind), -4)
        self.taken(signal(1, 9, MINOR))

    def test_wrong_ahead_of_out(self):
        self.refused(signal(0, 9, 6), -1)

    def test_one_is_out_not_before_it_comes(self):
        for kind in (MATCH, EXPELLED):
            calls = (begin(), signal(0, 1, kind), signal(0, 1, MINOR), clock(50), signal(0, 1, kind), stop(50),
                     signal(0, 1, MINOR))
            answered = ask(*calls)
            self.assertEqual([answered[k] for k in (1, 2, 4, 6)], [[1], [2], [3], [-4]])
            self.assertEqual(answered[5][0], 3)

    def test_three_majors_signalled(self):
        calls = (begin(), signal(0, 1, MAJOR), signal(0, 1, MAJOR), signal(0, 1, MAJOR), signal(0, 1, MINOR), stop(0),
                 signal(0, 1, MINOR), stop(0, (0, 1, MINOR)))
        self.assertEqual(ask(*calls)[4:], [[4], [4, 4, 5], [-4], [-4]])


class Twelve(unittest.TestCase):

    def test_twelve_are_taken_and_thirteen_are_not(self):
        twelve = [signal(1, player, MINOR) for player in range(12)]
        answered = ask(begin(), *twelve, signal(1, 20, MINOR), signal(1, 20, EXPELLED), signal(0, 20, MINOR), stop(0))
        self.assertEqual(answered[12:], [[12], [-5], [13], [14], [14, 5, 3]])

    def test_with_those_that_are_not_over(self):
        calls = (begin(), stop(0, *minors(0, range(10))), signal(0, 20, MINOR), signal(0, 21, DOUBLE),
                 signal(0, 21, MAJOR), signal(0, 22, MISCONDUCT), signal(0, 23, EXPELLED))
        self.assertEqual(ask(*calls)[2:], [[1], [-5], [2], [-5], [3]])

    def test_a_double_minor_signalled_is_two(self):
        six = [signal(0, player, DOUBLE) for player in range(6)]
        self.assertEqual(ask(begin(), *six, signal(0, 20, MINOR), signal(0, 20, EXPELLED))[6:], [[6], [-5], [7]])

    def test_those_that_are_over_now_are_none_of_them(self):
        calls = (begin(), stop(0, *minors(0, range(12))), signal(0, 20, MINOR), clock(119), signal(0, 20, MINOR),
                 clock(120), signal(0, 20, MINOR), signal(0, 21, MINOR), signal(0, 22, MINOR))
        self.assertEqual([ask(*calls)[k] for k in (2, 4, 6, 7, 8)], [[-5], [-5], [1], [2], [-5]])

    def test_wrong_and_out_ahead_of_too_many(self):
        calls = (begin(), stop(0, *minors(0, range(12)), (0, 30, EXPELLED)), signal(0, 100, MINOR),
                 signal(0, 30, MINOR), signal(0, 31, MINOR))
        self.assertEqual(ask(*calls)[2:], [[-1], [-4], [-5]])

    def test_a_refusal_leaves_what_was_signalled(self):
        twelve = [signal(1, player, MINOR) for player in range(12)]
        self.assertEqual(last(begin(), *twelve, signal(1, 20, MINOR), stop(0)), [12, 5, 3])


class Coming(unittest.TestCase):

    def test_a_clock_s_time_alone_brings_nothing(self):
        calls = (begin(), signal(0, 1, MINOR), clock(0), clock(200), clock(5000), stop(5000))
        self.assertEqual(ask(*calls)[2:], [[0, 5, 5], [0, 5, 5], [0, 5, 5], [1, 4, 5]])

    def test_the_time_of_one_signalled_begins_at_the_stop(self):
        calls = (begin(), signal(0, 1, MINOR), clock(100), stop(150), clock(269), clock(270))
        self.assertEqual(ask(*calls)[3:], [[1, 4, 5], [0, 4, 5], [0, 5, 5]])

    def test_the_next_stop_brings_all_and_the_one_behind_it_nothing(self):
        calls = (begin(), signal(0, 1, MINOR), signal(1, 2, MAJOR), signal(0, 3, EXPELLED), stop(10), stop(10))
        self.assertEqual(ask(*calls)[4:], [[3, 4, 4], [0, 4, 4]])

    def test_in_order(self):
        # Players 1 and 2 run first, so player 3's minor waits for player 1's.
        calls = (begin(), signal(0, 1, MINOR), signal(0, 2, MAJOR), signal(0, 3, MINOR), stop(0), clock(239),
                 clock(240), goal(240, 1), clock(300))
        self.assertEqual(ask(*calls)[4:], [[3, 3, 5], [0, 3, 5], [0, 4, 5], [1, -1, 4, 5], [0, 5, 5]])

    def test_ahead_of_what_is_told_at_the_stop(self):
        # Both signalled minors run, the major told at the stop waits up to 120.
        calls = (begin(), signal(0, 1, MINOR), signal(0, 2, MINOR), stop(0, (0, 3, MAJOR)), clock(120), clock(419),
                 clock(420))
        self.assertEqual(ask(*calls)[3:], [[3, 3, 5], [0, 4, 5], [0, 4, 5], [0, 5, 5]])

    def test_all_at_once_so_that_they_cancel_one_another(self):
        self.assertEqual(last(begin(), signal(0, 1, MINOR), stop(0, (1, 2, MINOR))), [2, 5, 5])
        self.assertEqual(last(begin(), signal(0, 1, MAJOR), clock(9), signal(1, 2, MATCH), stop(9)), [2, 5, 5])

    def test_of_those_that_cancel_the_signalled_ones_are_the_first(self):
        # Player 3's is canceled; player 1's counts, and waits for their misconduct.
        calls = (begin(), stop(0, (0, 1, MISCONDUCT)), signal(0, 3, MINOR), stop(0, (0, 1, MINOR), (1, 5, MINOR)),
                 clock(599), clock(600))
        self.assertEqual(ask(*calls)[3:], [[3, 5, 5], [0, 5, 5], [0, 4, 5]])

    def test_a_refused_stop_brings_nothing(self):
        for refused in (stop(9), stop(6001), stop(10, (2, 1, MINOR)), stop(10, (1, 9, MINOR))):
            calls = (begin(), stop(10, (1, 9, EXPELLED)), signal(0, 1, MINOR), refused, clock(10), signal(0, 2, MINOR),
                     stop(10))
            self.assertEqual(ask(*calls)[4:], [[0, 5, 5], [2], [2, 3, 5]])


if __name__ == "__main__":
    unittest.main()
