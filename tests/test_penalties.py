"""What the words say of penalties, shown by clock and stop."""
import unittest

from icepenalties.games import Game
from tests.helper import (DOUBLE, EXPELLED, MAJOR, MATCH, MINOR, MISCONDUCT, ask, begin, clock, goal, last, signal,
                          stop)


def skaters_at(times, *calls):
    """The skaters of both teams at these times, one clock behind another."""
    answered = ask(*calls, *[clock(time) for time in times])
    return [tuple(answer[1:]) for answer in answered[len(calls):]]


class Kinds(unittest.TestCase):

    def both_sides(self, seconds, *penalties):
        """A team is one short up to the second ahead of this one, and not from it on."""
        calls = (begin(), stop(10, *penalties))
        self.assertEqual(ask(*calls)[1], [len(penalties), 4, 5])
        self.assertEqual(skaters_at((10, 9 + seconds, 10 + seconds), *calls), [(4, 5), (4, 5), (5, 5)])

    def test_a_minor_is_120_seconds(self):
        self.both_sides(120, (0, 1, MINOR))

    def test_a_major_is_300_seconds(self):
        self.both_sides(300, (0, 1, MAJOR))

    def test_a_double_minor_is_two_minors_one_behind_the_other(self):
        self.both_sides(240, (0, 1, DOUBLE))

    def test_a_match_penalty_is_a_major_and_puts_the_player_out(self):
        self.both_sides(300, (0, 1, MATCH))
        self.assertEqual(ask(begin(), stop(0, (0, 1, MATCH)), stop(0, (0, 1, MINOR)), signal(0, 1, MINOR),
                             stop(6000, (0, 1, MINOR)), stop(6000, (1, 1, MINOR)))[2:],
                         [[-4], [-4], [-4], [1, 5, 4]])

    def test_a_misconduct_is_600_seconds_and_does_not_count(self):
        self.assertEqual(ask(begin(), stop(10, (0, 1, MISCONDUCT)))[1], [1, 5, 5])
        # The same player's minor behind it runs when it is over.
        self.assertEqual(skaters_at((10, 609, 610, 729, 730), begin(), stop(10, (0, 1, MISCONDUCT), (0, 1, MINOR))),
                         [(5, 5), (5, 5), (4, 5), (4, 5), (5, 5)])

    def test_kind_5_puts_the_player_out_and_has_no_time(self):
        self.assertEqual(ask(begin(), stop(0, (1, 1, EXPELLED)), clock(0), stop(0, (1, 1, EXPELLED)),
                             stop(0, (0, 1, EXPELLED)))[1:], [[1, 5, 5], [0, 5, 5], [-4], [1, 5, 5]])

    def test_minors_majors_double_minors_and_misconducts_put_nobody_out(self):
        for kind in (MINOR, MAJOR, MISCONDUCT, DOUBLE):
            self.assertEqual(last(begin(), stop(0, (0, 1, kind)), stop(6000, (0, 1, MINOR)))[0], 1)

    def test_how_many_came_is_told_as_they_were_told(self):
        self.assertEqual(last(begin(), stop(0, (0, 1, DOUBLE), (0, 2, EXPELLED), (1, 3, MATCH), (0, 4, MISCONDUCT))),
                         [4, 4, 4])

    def test_both_teams(self):
        self.assertEqual(skaters_at((0, 120, 299, 300), begin(6), stop(0, (1, 1, MINOR), (0, 1, MAJOR))),
                         [(5, 5), (5, 6), (5, 6), (6, 6)])


class Canceling(unittest.TestCase):

    def test_as_many_minors_of_both_cancel(self):
        self.assertEqual(ask(begin(), stop(0, (0, 1, MINOR), (1, 1, MINOR)))[1], [2, 5, 5])

    def test_majors_cancel_likewise(self):
        self.assertEqual(ask(begin(), stop(0, (1, 1, MAJOR), (0, 1, MAJOR)))[1], [2, 5, 5])

    def test_a_minor_does_not_cancel_a_major(self):
        self.assertEqual(ask(begin(), stop(0, (0, 1, MINOR), (1, 1, MAJOR)))[1], [2, 4, 4])

    def test_a_misconduct_cancels_nothing(self):
        for kind in (MINOR, MAJOR):
            self.assertEqual(ask(begin(), stop(0, (0, 1, MISCONDUCT), (1, 1, kind)))[1], [2, 5, 4])

    def test_match_penalties_cancel_as_majors(self):
        self.assertEqual(ask(begin(), stop(0, (0, 1, MATCH), (1, 1, MAJOR)))[1], [2, 5, 5])
        self.assertEqual(ask(begin(), stop(0, (0, 1, MATCH), (1, 1, MATCH)))[1], [2, 5, 5])
        self.assertEqual(ask(begin(), stop(0, (0, 1, MATCH), (1, 1, MINOR)))[1], [2, 4, 4])

    def test_kind_5_cancels_nothing(self):
        for kind in (MINOR, MAJOR):
            self.assertEqual(ask(begin(), stop(0, (0, 1, EXPELLED), (1, 1, kind)))[1], [2, 5, 4])

    def test_of_unequal_numbers_the_first_cancel(self):
        # The later one counts: behind a misconduct of its player it waits, the first would not.
        calls = (begin(), stop(0, (0, 2, MISCONDUCT), (0, 1, MINOR), (0, 2, MINOR), (1, 1, MINOR)))
        self.assertEqual(skaters_at((0, 600, 719, 720), *calls), [(5, 5), (4, 5), (4, 5), (5, 5)])
        calls = (begin(), stop(0, (1, 1, MAJOR), (0, 2, MISCONDUCT), (0, 2, MAJOR), (0, 1, MAJOR)))
        self.assertEqual(skaters_at((0, 299, 300, 600, 900), *calls), [(4, 5), (4, 5), (5, 5), (5, 5), (5, 5)])

    def test_unequal_numbers_leave_the_difference(self):
        self.assertEqual(ask(begin(6), stop(0, (0, 1, MINOR), (0, 2, MINOR), (0, 3, MINOR), (1, 1, MINOR)))[1],
                         [4, 4, 6])
        self.assertEqual(ask(begin(6), stop(0, (0, 1, MAJOR), (1, 2, MAJOR), (1, 3, MAJOR)))[1], [3, 6, 5])

    def test_minors_and_majors_cancel_each_among_themselves(self):
        self.assertEqual(ask(begin(), stop(0, (0, 1, MINOR), (0, 1, MAJOR), (1, 1, MAJOR), (1, 2, MINOR)))[1],
                         [4, 5, 5])

    def test_a_double_minor_is_two_of_those_that_cancel(self):
        self.assertEqual(ask(begin(), stop(0, (0, 1, DOUBLE), (1, 1, MINOR), (1, 2, MINOR)))[1], [3, 5, 5])
        self.assertEqual(ask(begin(), stop(0, (0, 1, DOUBLE), (1, 1, DOUBLE)))[1], [2, 5, 5])

    def test_of_a_double_minor_the_first_may_cancel_alone(self):
        calls = (begin(), stop(0, (0, 1, DOUBLE), (1, 1, MINOR)))
        self.assertEqual(skaters_at((0, 119, 120, 239, 240), *calls), [(5, 5), (5, 5), (4, 5), (4, 5), (5, 5)])

    def test_canceled_ones_are_served_all_the_same(self):
        calls = (begin(), stop(0, (0, 1, MAJOR), (1, 1, MAJOR)), stop(100, (0, 1, MINOR)))
        self.assertEqual(skaters_at((100, 299, 300, 419, 420), *calls), [(5, 5), (5, 5), (4, 5), (4, 5), (5, 5)])

    def test_only_what_comes_at_once_cancels(self):
        self.assertEqual(ask(begin(), stop(0, (0, 1, MINOR)), stop(0, (1, 1, MINOR)))[1:], [[1, 4, 5], [1, 4, 4]])

    def test_canceled_ones_do_not_keep_others_from_running(self):
        told = [(team, player, MINOR) for team in (0, 1) for player in range(4)]
        self.assertEqual(ask(begin(), stop(0, *told), stop(0, (0, 10, MINOR), (0, 11, MINOR)))[2], [2, 3, 5])


class Waiting(unittest.TestCase):

    def test_a_third_that_counts_waits_until_one_ahead_is_over(self):
        calls = (begin(), stop(0, (0, 1, MINOR), (0, 2, MAJOR)), stop(50, (0, 3, MINOR)))
        self.assertEqual(skaters_at((50, 120, 239, 240, 299, 300), *calls),
                         [(3, 5), (3, 5), (3, 5), (4, 5), (4, 5), (5, 5)])

    def test_it_has_all_its_time_left_when_it_begins_to_run(self):
        calls = (begin(6), stop(0, (0, 1, MINOR), (0, 2, MINOR), (0, 3, MINOR)))
        self.assertEqual(skaters_at((119, 120, 239, 240), *calls), [(4, 6), (5, 6), (5, 6), (6, 6)])

    def test_those_that_wait_run_in_the_order_in_which_they_came(self):
        calls = (begin(6), stop(0, (0, 1, MINOR), (0, 2, MAJOR), (0, 3, MAJOR), (0, 4, MINOR)))
        # Player 3 from 120 to 420, player 4 from 300 to 420.
        self.assertEqual(skaters_at((120, 300, 419, 420), *calls), [(4, 6), (4, 6), (4, 6), (6, 6)])

    def test_one_player_serves_one_at_a_time(self):
        calls = (begin(), stop(0, (0, 1, MINOR), (0, 1, MAJOR)), stop(60, (0, 1, MINOR)))
        self.assertEqual(skaters_at((60, 120, 420, 539, 540), *calls), [(4, 5), (4, 5), (4, 5), (4, 5), (5, 5)])

    def test_one_that_waits_for_its_own_player_lets_those_behind_it_run(self):
        calls = (begin(6), stop(0, (0, 1, MINOR), (0, 1, MINOR), (0, 2, MINOR), (0, 3, MINOR)))
        # 1 and 2 to 120; then 1 again and 3.
        self.assertEqual(skaters_at((0, 119, 120, 239, 240), *calls), [(4, 6), (4, 6), (4, 6), (4, 6), (6, 6)])

    def test_one_waits_for_its_own_player_also_behind_one_that_waits(self):
        calls = (begin(6), stop(0, (0, 1, MAJOR), (0, 2, MAJOR), (0, 3, MINOR)), stop(0, (0, 3, MISCONDUCT)),
                 stop(0, (0, 3, MINOR)))
        # 3's minor from 300 to 420, the misconduct to 1020, then the other minor.
        self.assertEqual(skaters_at((300, 419, 420, 1019, 1020, 1139, 1140), *calls),
                         [(5, 6), (5, 6), (6, 6), (6, 6), (5, 6), (5, 6), (6, 6)])

    def test_a_misconduct_runs_beside_two_that_count(self):
        calls = (begin(), stop(0, (0, 1, MAJOR), (0, 2, MAJOR), (0, 3, MISCONDUCT)), stop(0, (0, 3, MINOR)))
        self.assertEqual(skaters_at((300, 599, 600, 719, 720), *calls),
                         [(5, 5), (5, 5), (4, 5), (4, 5), (5, 5)])

    def test_one_that_runs_waits_again_when_two_ahead_of_it_run(self):
        # Player 1's minor is ahead, but waits for the misconduct up to 600; 3 has run 60 seconds by then.
        calls = (begin(6), stop(0, (0, 1, MISCONDUCT), (0, 1, MINOR)), stop(540, (0, 2, MINOR), (0, 3, MINOR)))
        # 2 is over at 660; 3 runs again from there with 60 left; 1 is over at 720 too.
        self.assertEqual(skaters_at((540, 600, 659, 660, 719, 720), *calls),
                         [(4, 6), (4, 6), (4, 6), (4, 6), (4, 6), (6, 6)])

    def test_the_teams_wait_each_for_themselves(self):
        calls = (begin(), stop(0, (0, 1, MAJOR), (0, 2, MAJOR)), stop(0, (1, 1, MINOR), (1, 2, MINOR)))
        self.assertEqual(skaters_at((0, 120, 300), *calls), [(3, 3), (3, 5), (5, 5)])


class Skaters(unittest.TestCase):

    def test_never_fewer_than_three(self):
        shown = {3: (3, 3, 3), 4: (3, 3, 3), 5: (4, 3, 3), 6: (5, 4, 4)}
        for skaters, expected in shown.items():
            answered = ask(begin(skaters), stop(0, (1, 1, MINOR)), stop(0, (1, 2, MINOR)), stop(0, (1, 3, MINOR)))
            self.assertEqual(answered[1:], [[1, skaters, fewer] for fewer in expected])

    def test_two_run_also_where_the_team_has_three_skaters(self):
        # The third waits for one of the two, and not for both.
        calls = (begin(4), stop(0, (0, 1, MINOR), (0, 2, MAJOR), (0, 3, MINOR)))
        self.assertEqual(skaters_at((299, 300), *calls), [(3, 4), (4, 4)])
        calls = (begin(4), stop(0, (0, 1, MINOR), (0, 2, MINOR), (0, 3, MINOR)))
        self.assertEqual(skaters_at((239, 240), *calls), [(3, 4), (4, 4)])


class Steps(unittest.TestCase):

    CALLS = (begin(6), stop(0, (0, 1, MINOR), (0, 2, MAJOR), (0, 3, DOUBLE), (1, 4, MATCH), (0, 3, MISCONDUCT),
                            (0, 1, MINOR), (1, 5, MINOR), (1, 5, MAJOR), (1, 6, DOUBLE), (0, 3, MINOR)))

    def test_time_in_one_step_is_time_in_several(self):
        second_by_second = skaters_at(range(1, 140), *self.CALLS)
        for time in range(1, 140):
            self.assertEqual(skaters_at((time,), *self.CALLS), [second_by_second[time - 1]])

    def test_steps_of_any_length(self):
        for length in (7, 30, 60, 119, 121, 240, 400, 999):
            times = list(range(length, 2000, length))[:140]
            for time, shown in zip(times, skaters_at(times, *self.CALLS)):
                self.assertEqual(skaters_at((time,), *self.CALLS), [shown], (length, time))


class Majors(unittest.TestCase):

    def out_after(self, *calls):
        return last(begin(), *calls, stop(6000, (0, 1, MINOR))) == [-4]

    def test_three_majors_of_one_player_put_them_out(self):
        self.assertTrue(self.out_after(stop(0, (0, 1, MAJOR), (0, 1, MAJOR), (0, 1, MAJOR))))
        self.assertFalse(self.out_after(stop(0, (0, 1, MAJOR), (0, 1, MAJOR))))

    def test_those_that_are_over_too(self):
        self.assertTrue(self.out_after(stop(0, (0, 1, MAJOR)), stop(1000, (0, 1, MAJOR)), stop(2000, (0, 1, MAJOR))))

    def test_canceled_ones_too(self):
        self.assertTrue(self.out_after(stop(0, (0, 1, MAJOR), (1, 1, MAJOR)), stop(0, (0, 1, MAJOR)),
                                       stop(0, (1, 1, MAJOR), (0, 1, MAJOR))))

    def test_those_of_match_penalties_too(self):
        self.assertEqual(Game(5).majors, {})
        game = Game(5)
        game.stop(0, [0, 1, MATCH, 0, 1, MAJOR])
        self.assertEqual(game.majors, {(0, 1): 2})

    def test_other_kinds_are_no_majors(self):
        self.assertFalse(self.out_after(stop(0, (0, 1, MAJOR), (0, 1, MAJOR), (0, 1, DOUBLE), (0, 1, MISCONDUCT),
                                             (0, 1, MINOR))))

    def test_those_of_others_do_not_count_for_one(self):
        self.assertFalse(self.out_after(stop(0, (0, 1, MAJOR), (0, 1, MAJOR), (1, 1, MAJOR), (0, 2, MAJOR))))

    def test_the_third_is_taken_and_the_fourth_refused(self):
        answered = ask(begin(), stop(0, (0, 1, MAJOR), (0, 1, MAJOR)), stop(0, (0, 1, MAJOR)), stop(0, (0, 1, MAJOR)),
                       signal(0, 1, MAJOR))
        self.assertEqual(answered[1:], [[2, 4, 5], [1, 4, 5], [-4], [-4]])

    def test_a_fourth_in_the_same_call_is_taken(self):
        self.assertEqual(last(begin(), stop(0, *[(0, 1, MAJOR)] * 4)), [4, 4, 5])

    def test_those_signalled_when_they_come(self):
        answered = ask(begin(), stop(0, (0, 1, MAJOR), (0, 1, MAJOR)), signal(0, 1, MAJOR), signal(0, 1, MINOR),
                       stop(0), signal(0, 1, MINOR))
        self.assertEqual(answered[2:], [[1], [2], [2, 4, 5], [-4]])


class Minutes(unittest.TestCase):

    def test_each_kind_has_its_minutes(self):
        for kind, noted in enumerate((2, 5, 10, 4, 25, 20)):
            game = Game(5)
            game.stop(0, [1, 7, kind])
            self.assertEqual(game.noted, {(1, 7): noted})

    def test_canceled_or_not_and_when_they_come(self):
        game = Game(5)
        game.stop(0, [0, 1, MINOR, 1, 1, MINOR])
        game.signal(0, 1, MAJOR)
        self.assertEqual(game.noted, {(0, 1): 2, (1, 1): 2})
        game.stop(0, [])
        self.assertEqual(game.noted, {(0, 1): 7, (1, 1): 2})

    def test_what_is_gone_by_a_goal_is_not_noted(self):
        game = Game(5)
        game.signal(1, 2, MINOR)
        game.goal(0, 0)
        self.assertEqual(game.noted, {})
        game.signal(1, 2, DOUBLE)
        game.goal(0, 0)
        self.assertEqual(game.noted, {(1, 2): 2})

    def test_a_refused_stop_notes_nothing(self):
        game = Game(5)
        self.assertEqual(game.stop(0, [0, 1, MINOR] * 13), [-5])
        self.assertEqual(game.noted, {})


class Back(unittest.TestCase):

    def test_a_player_who_was_back_may_be_told_of_again(self):
        calls = (begin(), stop(0, (0, 1, MINOR)), stop(120, (0, 1, MINOR)))
        self.assertEqual(skaters_at((239, 240), *calls), [(4, 5), (5, 5)])

    def test_what_is_over_at_a_goal_s_time_is_over(self):
        self.assertEqual(last(begin(), stop(0, (0, 1, MINOR)), goal(119, 1)), [1, 1, 5, 5])
        self.assertEqual(last(begin(), stop(0, (0, 1, MINOR)), goal(120, 1)), [0, -1, 5, 5])


if __name__ == "__main__":
    unittest.main()
