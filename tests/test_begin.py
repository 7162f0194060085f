"""Promise 1: begin's refusal, and that of every other call while there is no game."""
import unittest

from tests.helper import (EXPELLED, LARGEST, MAJOR, MATCH, MINOR, SMALLEST, all_shown, ask, begin, box, clock, goal,
                          last, minutes, now, signal, stop, stop_row, till)


class Begin(unittest.TestCase):

    def test_three_to_six_skaters_begin_a_game(self):
        for skaters in (3, 4, 5, 6):
            self.assertEqual(ask(begin(skaters), clock(0)), [[0], [0, skaters, skaters]])

    def test_other_numbers_of_skaters_are_refused(self):
        for skaters in (2, 7, 0, -3, SMALLEST, LARGEST):
            self.assertEqual(ask(begin(skaters), clock(0)), [[-1], [-2]])

    def test_a_game_begun_anew_has_nothing_of_the_one_before(self):
        answered = ask(begin(6), stop(100, (0, 1, MATCH), (0, 2, EXPELLED), (1, 3, MINOR), (1, 3, MAJOR)),
                       signal(1, 4, MINOR), begin(5), clock(0), stop(0, (0, 1, MINOR), (0, 2, MINOR)),
                       signal(1, 4, MINOR))
        self.assertEqual(answered[3:], [[0], [0, 5, 5], [2, 3, 5], [1]])

    def test_all_that_is_shown_is_as_in_a_first_game(self):
        before = (begin(6), stop(100, (0, 1, MATCH), (1, 3, MINOR), (1, 4, EXPELLED)), goal(110, 0), goal(120, 1),
                  signal(1, 5, MINOR))
        for skaters in (3, 4, 5, 6):
            answered = ask(*before, begin(skaters), *all_shown())
            self.assertEqual(answered[len(before):], [[0], [0, skaters, skaters, 0, 0, 0]] + [[0]] * 6)
            self.assertEqual(answered[len(before):], ask(begin(skaters), *all_shown()))

    def test_majors_of_the_game_before_are_forgotten(self):
        answered = ask(begin(), stop(0, (0, 1, MAJOR), (0, 1, MAJOR)), begin(), stop(0, (0, 1, MAJOR)),
                       stop(1, (0, 1, MAJOR)))
        self.assertEqual(answered[3:], [[1, 4, 5], [1, 4, 5]])

    def test_a_refused_begin_leaves_the_game_as_it_is(self):
        for skaters in (2, 7, SMALLEST, LARGEST):
            before = (begin(6), stop(10, (0, 1, MINOR)), signal(1, 2, MINOR))
            answered = ask(*before, begin(skaters), clock(9), clock(10), signal(1, 3, MINOR))
            self.assertEqual(answered[3:], [[-1], [-1], [0, 5, 6], [2]])
            self.assertEqual(ask(*before, begin(skaters), *all_shown())[4:], ask(*before, *all_shown())[3:])


class NoGame(unittest.TestCase):

    def test_each_other_call_is_refused(self):
        for call in (clock(0), stop(0), stop(5, (0, 1, MINOR)), signal(0, 1, MINOR), goal(0, 0),
                     now(), box(0), box(1), minutes(0), minutes(1), till(0), till(1)):
            self.assertEqual(ask(call, call, begin(), clock(0)), [[-2], [-2], [0], [0, 5, 5]])

    def test_no_game_comes_ahead_of_all_other_refusals(self):
        for call in (clock(-1), clock(6001), clock(SMALLEST), stop(-1), stop(6001, (0, 1, MINOR)),
                     stop_row(0, [0]), stop_row(0, [0, 1]), stop_row(0, [2, 100, 6] * 20),
                     stop(0, *[(0, 1, MINOR)] * 13), signal(2, 100, 6), signal(SMALLEST, LARGEST, LARGEST),
                     goal(-1, 2), goal(6001, LARGEST)):
            self.assertEqual(ask(call, begin(), clock(0)), [[-2], [0], [0, 5, 5]])

    def test_no_game_comes_ahead_of_a_team_that_is_neither(self):
        for team in (-1, 2, SMALLEST, LARGEST):
            for call in (box(team), minutes(team), till(team)):
                self.assertEqual(ask(call, begin(), call), [[-2], [0], [-1]])
                self.assertEqual(ask(begin(7), call), [[-1], [-2]])

    def test_a_refused_begin_makes_no_game(self):
        self.assertEqual(last(begin(2), stop(0, (0, 1, MINOR))), [-2])
        self.assertEqual(last(begin(7), goal(0, 0)), [-2])


if __name__ == "__main__":
    unittest.main()
