"""What box answers: of each penalty that isn't over the player, the kind, the seconds left, counts, runs."""
import unittest

from tests.helper import (DOUBLE, EXPELLED, MAJOR, MATCH, MINOR, MISCONDUCT, ask, begin, box, clock, goal, last, minors,
                          now, signal, stop)


def boxed(team, *calls):
    """The team's penalties behind these calls, each as (player, kind, left, counts, runs)."""
    answer = last(*calls, box(team))
    rows = [tuple(answer[k:k + 5]) for k in range(1, len(answer), 5)]
    assert len(answer) == 1 + 5 * answer[0] == 1 + 5 * len(rows), answer
    return rows


class Kinds(unittest.TestCase):

    def test_an_empty_one(self):
        self.assertEqual(ask(begin(), box(0), box(1))[1:], [[0], [0]])
        self.assertEqual(ask(begin(), clock(6000), box(0), stop(6000), box(1))[2::2], [[0], [0]])

    def test_each_kind(self):
        shown = {MINOR: [1, 7, 0, 120, 1, 1], MAJOR: [1, 7, 1, 300, 1, 1], MISCONDUCT: [1, 7, 2, 600, 0, 1],
                 DOUBLE: [2, 7, 0, 120, 1, 1, 7, 0, 120, 1, 0], MATCH: [1, 7, 1, 300, 1, 1], EXPELLED: [0]}
        for kind, expected in shown.items():
            for team in (0, 1):
                calls = (begin(), stop(10, (team, 7, kind)))
                self.assertEqual(ask(*calls, box(team), box(1 - team))[2:], [expected, [0]], kind)

    def test_players_0_and_99(self):
        calls = (begin(), stop(0, (0, 99, MINOR), (0, 0, MAJOR)))
        self.assertEqual(boxed(0, *calls), [(99, 0, 120, 1, 1), (0, 1, 300, 1, 1)])

    def test_kind_5_among_others(self):
        calls = (begin(), stop(0, (0, 1, MINOR), (0, 2, EXPELLED), (0, 1, EXPELLED), (0, 3, MINOR)))
        self.assertEqual(boxed(0, *calls), [(1, 0, 120, 1, 1), (3, 0, 120, 1, 1)])

    def test_what_is_signalled_is_not_there_until_it_comes(self):
        calls = (begin(), signal(0, 1, MINOR), signal(0, 2, DOUBLE), clock(50))
        self.assertEqual(boxed(0, *calls), [])
        self.assertEqual(boxed(0, *calls, stop(60)), [(1, 0, 120, 1, 1), (2, 0, 120, 1, 1), (2, 0, 120, 1, 0)])

    def test_numbers_are_plain_whole_numbers(self):
        answer = last(begin(), stop(0, (0, 1, MINOR), (0, 1, MISCONDUCT)), box(0))
        self.assertEqual({number.__class__ for number in answer}, {int})


class Counting(unittest.TestCase):

    def test_those_that_cancel_do_not_count_and_run(self):
        calls = (begin(), stop(0, (0, 1, MINOR), (1, 2, MINOR), (1, 3, MAJOR), (0, 4, MATCH)))
        self.assertEqual(boxed(0, *calls), [(1, 0, 120, 0, 1), (4, 1, 300, 0, 1)])
        self.assertEqual(boxed(1, *calls), [(2, 0, 120, 0, 1), (3, 1, 300, 0, 1)])

    def test_the_first_of_each_cancel(self):
        calls = (begin(), stop(0, (0, 1, MINOR), (0, 2, MINOR), (0, 3, MINOR), (1, 4, MINOR), (1, 5, MINOR)))
        self.assertEqual(boxed(0, *calls), [(1, 0, 120, 0, 1), (2, 0, 120, 0, 1), (3, 0, 120, 1, 1)])
        self.assertEqual(boxed(1, *calls), [(4, 0, 120, 0, 1), (5, 0, 120, 0, 1)])
        calls = (begin(), stop(0, (1, 1, MAJOR), (1, 2, MATCH), (0, 3, MAJOR)))
        self.assertEqual(boxed(1, *calls), [(1, 1, 300, 0, 1), (2, 1, 300, 1, 1)])

    def test_a_double_minor_is_two_of_them(self):
        calls = (begin(), stop(0, (0, 1, DOUBLE), (1, 2, MINOR)))
        self.assertEqual(boxed(0, *calls), [(1, 0, 120, 0, 1), (1, 0, 120, 1, 0)])
        self.assertEqual(boxed(1, *calls), [(2, 0, 120, 0, 1)])
        calls = (begin(), stop(0, (0, 1, DOUBLE), (1, 2, MINOR), (1, 3, MINOR), (1, 4, MINOR)))
        self.assertEqual(boxed(0, *calls), [(1, 0, 120, 0, 1), (1, 0, 120, 0, 0)])
        self.assertEqual(boxed(1, *calls), [(2, 0, 120, 0, 1), (3, 0, 120, 0, 1), (4, 0, 120, 1, 1)])

    def test_minors_majors_and_misconducts_do_not_cancel_one_another(self):
        calls = (begin(), stop(0, (0, 1, MINOR), (1, 2, MAJOR), (0, 3, MISCONDUCT), (1, 4, MISCONDUCT)))
        self.assertEqual(boxed(0, *calls), [(1, 0, 120, 1, 1), (3, 2, 600, 0, 1)])
        self.assertEqual(boxed(1, *calls), [(2, 1, 300, 1, 1), (4, 2, 600, 0, 1)])

    def test_those_signalled_cancel_ahead_of_those_told_at_the_stop(self):
        calls = (begin(), signal(0, 9, MINOR), stop(5, (0, 1, MINOR), (1, 2, MINOR)))
        self.assertEqual(boxed(0, *calls), [(9, 0, 120, 0, 1), (1, 0, 120, 1, 1)])

    def test_not_with_what_came_before(self):
        calls = (begin(), stop(5, (0, 1, MINOR)), stop(5, (1, 2, MINOR)))
        self.assertEqual(boxed(0, *calls) + boxed(1, *calls), [(1, 0, 120, 1, 1), (2, 0, 120, 1, 1)])

    def test_what_does_not_count_is_served_all_the_same(self):
        calls = (begin(), stop(0, (0, 1, MINOR), (1, 2, MINOR), (0, 3, MISCONDUCT)), clock(119))
        self.assertEqual(boxed(0, *calls), [(1, 0, 1, 0, 1), (3, 2, 481, 0, 1)])
        self.assertEqual(boxed(0, *calls, clock(120)), [(3, 2, 480, 0, 1)])


class Running(unittest.TestCase):

    def test_a_third_that_counts_waits(self):
        calls = (begin(), stop(0, *minors(0, (1, 2, 3, 4))))
        self.assertEqual(boxed(0, *calls), [(1, 0, 120, 1, 1), (2, 0, 120, 1, 1), (3, 0, 120, 1, 0), (4, 0, 120, 1, 0)])
        self.assertEqual(boxed(0, *calls, clock(120)), [(3, 0, 120, 1, 1), (4, 0, 120, 1, 1)])

    def test_one_behind_another_of_its_player_waits(self):
        calls = (begin(), stop(0, (0, 1, MINOR), (0, 1, MISCONDUCT), (0, 2, MINOR)))
        self.assertEqual(boxed(0, *calls), [(1, 0, 120, 1, 1), (1, 2, 600, 0, 0), (2, 0, 120, 1, 1)])
        self.assertEqual(boxed(0, *calls, clock(130)), [(1, 2, 590, 0, 1)])

    def test_one_behind_another_of_its_player_that_waits_itself(self):
        calls = (begin(), stop(0, *minors(0, (1, 2, 3))), stop(0, (0, 3, MISCONDUCT)))
        self.assertEqual(boxed(0, *calls)[2:], [(3, 0, 120, 1, 0), (3, 2, 600, 0, 0)])

    def test_what_does_not_count_runs_beside_two_that_count(self):
        calls = (begin(), stop(0, (0, 1, MAJOR), (0, 2, MAJOR)), stop(9, (0, 3, MISCONDUCT)),
                 stop(9, (0, 4, MINOR), (1, 4, MINOR)), stop(9, (0, 5, MINOR)))
        self.assertEqual(boxed(0, *calls), [(1, 1, 291, 1, 1), (2, 1, 291, 1, 1), (3, 2, 600, 0, 1), (4, 0, 120, 0, 1),
                                            (5, 0, 120, 1, 0)])

    def test_one_that_waits_for_its_player_does_not_keep_others_from_running(self):
        calls = (begin(), stop(0, *minors(0, (1, 1, 1, 2, 3))))
        self.assertEqual([row[4] for row in boxed(0, *calls)], [1, 0, 0, 1, 0])

    def test_one_that_runs_waits_again_when_two_ahead_of_it_run(self):
        calls = (begin(6), stop(0, (0, 1, MISCONDUCT), (0, 1, MINOR)), stop(540, (0, 2, MINOR), (0, 3, MINOR)))
        self.assertEqual(boxed(0, *calls, clock(599)),
                         [(1, 2, 1, 0, 1), (1, 0, 120, 1, 0), (2, 0, 61, 1, 1), (3, 0, 61, 1, 1)])
        self.assertEqual(boxed(0, *calls, clock(600)), [(1, 0, 120, 1, 1), (2, 0, 60, 1, 1), (3, 0, 60, 1, 0)])
        self.assertEqual(boxed(0, *calls, clock(659)), [(1, 0, 61, 1, 1), (2, 0, 1, 1, 1), (3, 0, 60, 1, 0)])
        self.assertEqual(boxed(0, *calls, clock(660)), [(1, 0, 60, 1, 1), (3, 0, 60, 1, 1)])
        self.assertEqual(boxed(0, *calls, clock(720)), [])

    def test_the_teams_wait_each_for_themselves(self):
        calls = (begin(), stop(0, *minors(0, (1, 2))), stop(0, *minors(1, (1, 2))))
        self.assertEqual(boxed(1, *calls), [(1, 0, 120, 1, 1), (2, 0, 120, 1, 1)])

    def test_also_where_a_team_has_three_skaters(self):
        calls = (begin(3), stop(0, *minors(0, (1, 2, 3))))
        self.assertEqual([row[4] for row in boxed(0, *calls)], [1, 1, 0])


class Left(unittest.TestCase):

    def test_behind_a_clock(self):
        calls = (begin(), stop(10, (0, 1, MINOR), (0, 2, MAJOR), (0, 3, MISCONDUCT), (0, 4, MINOR)))
        for time in (10, 11, 70, 129):
            gone = time - 10
            self.assertEqual(boxed(0, *calls, clock(time)),
                             [(1, 0, 120 - gone, 1, 1), (2, 1, 300 - gone, 1, 1), (3, 2, 600 - gone, 0, 1),
                              (4, 0, 120, 1, 0)])
        self.assertEqual(boxed(0, *calls, clock(130)), [(2, 1, 180, 1, 1), (3, 2, 480, 0, 1), (4, 0, 120, 1, 1)])
        self.assertEqual(boxed(0, *calls, clock(249)), [(2, 1, 61, 1, 1), (3, 2, 361, 0, 1), (4, 0, 1, 1, 1)])
        self.assertEqual(boxed(0, *calls, clock(309)), [(2, 1, 1, 1, 1), (3, 2, 301, 0, 1)])
        self.assertEqual(boxed(0, *calls, clock(610)), [])

    def test_of_a_double_minor(self):
        calls = (begin(), stop(0, (0, 1, DOUBLE)))
        self.assertEqual(boxed(0, *calls, clock(119)), [(1, 0, 1, 1, 1), (1, 0, 120, 1, 0)])
        self.assertEqual(boxed(0, *calls, clock(120)), [(1, 0, 120, 1, 1)])
        self.assertEqual(boxed(0, *calls, clock(239)), [(1, 0, 1, 1, 1)])
        self.assertEqual(boxed(0, *calls, clock(240)), [])

    def test_behind_a_stop_and_a_goal(self):
        calls = (begin(), stop(0, (0, 1, MAJOR)))
        self.assertEqual(boxed(0, *calls, stop(40)), [(1, 1, 260, 1, 1)])
        self.assertEqual(boxed(0, *calls, goal(41, 1)), [(1, 1, 259, 1, 1)])

    def test_a_refused_call_takes_none_of_it(self):
        for refused in (clock(6001), stop(50, (0, 1, 6)), stop(50, *minors(0, range(13))), goal(50, 2)):
            self.assertEqual(boxed(0, begin(), stop(0, (0, 1, MAJOR)), refused), [(1, 1, 300, 1, 1)])


class Order(unittest.TestCase):

    def test_as_they_came(self):
        calls = (begin(), stop(0, (0, 9, MINOR), (1, 8, MAJOR), (0, 3, DOUBLE)), signal(0, 7, MAJOR),
                 stop(1, (0, 1, MISCONDUCT)), stop(1, (0, 9, MAJOR)))
        self.assertEqual([row[:2] for row in boxed(0, *calls)], [(9, 0), (3, 0), (3, 0), (7, 1), (1, 2), (9, 1)])
        self.assertEqual([row[:2] for row in boxed(1, *calls)], [(8, 1)])

    def test_those_signalled_ahead_of_those_told_at_the_stop(self):
        calls = (begin(), signal(0, 5, MINOR), signal(0, 4, MINOR), stop(0, (0, 3, MINOR)))
        self.assertEqual([row[0] for row in boxed(0, *calls)], [5, 4, 3])

    def test_twelve(self):
        calls = (begin(), stop(0, *minors(0, range(20, 32))), stop(0, *[(1, player, DOUBLE) for player in range(6)]))
        self.assertEqual(boxed(0, *calls), [(20 + k, 0, 120, 1, 1 if k < 2 else 0) for k in range(12)])
        self.assertEqual(boxed(1, *calls), [(k // 2, 0, 120, 1, 1 if k in (0, 2) else 0) for k in range(12)])
        self.assertEqual(boxed(0, *calls, clock(250)), [(24 + k, 0, 110 if k < 2 else 120, 1, 1 if k < 2 else 0)
                                                        for k in range(8)])

    def test_twelve_of_one_player(self):
        calls = (begin(), stop(0, *[(1, 5, MISCONDUCT)] * 12))
        self.assertEqual(boxed(1, *calls, clock(1250)), [(5, 2, 550, 0, 1)] + [(5, 2, 600, 0, 0)] * 9)
        self.assertEqual(boxed(1, *calls, clock(6000)), [(5, 2, 600, 0, 1), (5, 2, 600, 0, 0)])

    def test_a_refused_thirteenth_is_not_there(self):
        calls = (begin(), stop(0, *minors(0, range(12))), stop(0, (0, 50, MINOR)), signal(0, 51, MINOR))
        self.assertEqual([row[0] for row in boxed(0, *calls)], list(range(12)))


class Goals(unittest.TestCase):

    def test_the_minor_that_a_goal_ends_is_there_no_more(self):
        calls = (begin(), stop(0, (0, 1, MAJOR), (0, 2, DOUBLE)), stop(0, (0, 4, MINOR)), goal(30, 1))
        self.assertEqual(ask(*calls)[-1], [1, 2, 3, 5])
        self.assertEqual(boxed(0, *calls), [(1, 1, 270, 1, 1), (2, 0, 120, 1, 1), (4, 0, 120, 1, 0)])

    def test_what_is_signalled_comes_by_it_but_for_what_is_gone(self):
        calls = (begin(), signal(1, 1, MAJOR), signal(1, 2, DOUBLE), signal(0, 3, MINOR), signal(1, 4, MINOR),
                 goal(30, 0))
        self.assertEqual(boxed(0, *calls), [(3, 0, 120, 0, 1)])
        self.assertEqual(boxed(1, *calls), [(1, 1, 300, 1, 1), (2, 0, 120, 0, 1), (4, 0, 120, 1, 1)])

    def test_skaters_are_as_many_less_as_count_and_run(self):
        calls = (begin(6), stop(0, *minors(0, (1, 1, 2, 3))), stop(5, (0, 4, MISCONDUCT), (1, 5, MINOR)), clock(100))
        for team in (0, 1):
            missing = sum(row[3] * row[4] for row in boxed(team, *calls))
            self.assertEqual(last(*calls, now())[1 + team], 6 - missing)


if __name__ == "__main__":
    unittest.main()
