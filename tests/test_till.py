"""What till answers, held against what box tells at that time; and that time in two steps is time in one."""
import random
import unittest

from tests.helper import (DOUBLE, EXPELLED, MAJOR, MATCH, MINOR, MISCONDUCT, all_shown, ask, begin, box, clock, goal,
                          last, minors, now, signal, stop, till)


def pairs(answer):
    assert len(answer) == 1 + 2 * answer[0], answer
    return [tuple(answer[k:k + 2]) for k in range(1, len(answer), 2)]


def ends(team, *calls):
    """The team's penalties behind these calls, each as (player, the time at which it's over)."""
    return pairs(last(*calls, till(team)))


# Games whose penalties run, wait for their own player, for two that count, and wait again.
GAMES = (
    (begin(),),
    (begin(), stop(10, (0, 1, MINOR), (1, 2, DOUBLE), (0, 3, MISCONDUCT))),
    (begin(), stop(0, *minors(0, range(12))), stop(30, *[(1, player % 3, DOUBLE) for player in range(6)])),
    (begin(6), stop(0, (0, 1, MISCONDUCT), (0, 1, MINOR)), stop(540, (0, 2, MINOR), (0, 3, MINOR))),
    (begin(6), stop(0, (0, 1, MISCONDUCT), (0, 1, MAJOR), (0, 2, MISCONDUCT), (0, 2, MINOR)),
     stop(560, *minors(0, (3, 4, 5, 3)))),
    (begin(4), stop(0, (0, 1, MAJOR), (0, 2, MATCH), (0, 1, DOUBLE), (0, 3, DOUBLE), (0, 2, MISCONDUCT),
                    (1, 7, MINOR), (1, 7, MAJOR)), goal(20, 1), goal(50, 0), signal(1, 8, MINOR)),
    (begin(), stop(5700, (0, 1, MINOR), (0, 1, MAJOR), (0, 1, MINOR), (1, 4, MISCONDUCT)), clock(5790)),
)


class Told(unittest.TestCase):

    def test_an_empty_one(self):
        self.assertEqual(ask(begin(), till(0), till(1))[1:], [[0], [0]])
        self.assertEqual(last(begin(), stop(0, (0, 1, EXPELLED)), till(0)), [0])
        self.assertEqual(last(begin(), stop(0, (0, 1, MINOR)), clock(120), till(0)), [0])

    def test_one_that_runs(self):
        for kind, seconds in ((MINOR, 120), (MAJOR, 300), (MISCONDUCT, 600), (MATCH, 300)):
            for team in (0, 1):
                calls = (begin(), stop(10, (team, 7, kind)), till(team), till(1 - team), clock(50), till(team))
                answered = ask(*calls)
                self.assertEqual([answered[k] for k in (2, 3, 5)], [[1, 7, 10 + seconds], [0], [1, 7, 10 + seconds]])

    def test_a_double_minor(self):
        self.assertEqual(last(begin(), stop(10, (0, 1, DOUBLE)), till(0)), [2, 1, 130, 1, 250])
        self.assertEqual(last(begin(), stop(10, (0, 1, DOUBLE)), clock(130), till(0)), [1, 1, 250])

    def test_one_behind_another_of_its_own_player(self):
        calls = (begin(), stop(0, (0, 1, MINOR), (0, 1, MISCONDUCT), (0, 2, MINOR), (0, 1, MAJOR)))
        self.assertEqual(ends(0, *calls), [(1, 120), (1, 720), (2, 120), (1, 1020)])

    def test_one_that_waits_for_two_that_count(self):
        calls = (begin(), stop(0, (0, 1, MINOR), (0, 2, MAJOR)), stop(50, (0, 3, MINOR), (0, 4, MAJOR)))
        self.assertEqual(ends(0, *calls), [(1, 120), (2, 300), (3, 240), (4, 540)])

    def test_one_that_waits_again(self):
        calls = (begin(6), stop(0, (0, 1, MISCONDUCT), (0, 1, MINOR)), stop(540, (0, 2, MINOR), (0, 3, MINOR)))
        # Player 3 runs from 540 to 600, waits for 1 and 2, and runs again from 660 on.
        self.assertEqual(ends(0, *calls), [(1, 600), (1, 720), (2, 660), (3, 720)])
        self.assertEqual(ends(0, *calls, clock(600)), [(1, 720), (2, 660), (3, 720)])

    def test_canceled_ones_are_served_at_once(self):
        calls = (begin(), stop(0, (0, 1, MAJOR), (0, 2, MAJOR)), stop(5, (0, 3, MINOR), (1, 4, MINOR), (0, 5, MINOR)))
        self.assertEqual(ends(0, *calls), [(1, 300), (2, 300), (3, 125), (5, 420)])
        self.assertEqual(ends(1, *calls), [(4, 125)])

    def test_twelve(self):
        calls = (begin(), stop(7, *minors(0, range(12))))
        self.assertEqual(ends(0, *calls), [(k, 127 + 120 * (k // 2)) for k in range(12)])

    def test_a_time_beyond_6000_is_told_all_the_same(self):
        self.assertEqual(last(begin(), stop(5880, (0, 1, DOUBLE)), till(0)), [2, 1, 6000, 1, 6120])
        self.assertEqual(last(begin(), stop(6000, (0, 1, MINOR)), till(0)), [1, 1, 6120])
        calls = (begin(), stop(6000, *[(1, 5, MISCONDUCT)] * 12))
        self.assertEqual(ends(1, *calls), [(5, 6600 + 600 * k) for k in range(12)])

    def test_what_is_signalled_is_not_there_until_it_comes(self):
        calls = (begin(), stop(0, (0, 1, MAJOR)), signal(0, 2, MINOR), signal(0, 1, MINOR), clock(10))
        self.assertEqual(ends(0, *calls), [(1, 300)])
        self.assertEqual(ends(0, *calls, stop(20)), [(1, 300), (2, 140), (1, 420)])

    def test_what_comes_later_may_change_it(self):
        calls = (begin(), stop(0, (0, 1, MINOR), (0, 2, MAJOR), (0, 3, MINOR)))
        self.assertEqual(ends(0, *calls), [(1, 120), (2, 300), (3, 240)])
        self.assertEqual(ends(0, *calls, goal(20, 1)), [(2, 300), (3, 140)])

    def test_the_same_players_in_the_same_order_as_box(self):
        for calls in GAMES:
            for team in (0, 1):
                boxed = last(*calls, box(team))
                self.assertEqual([player for player, time in ends(team, *calls)], boxed[1::5])


class Back(unittest.TestCase):
    """Who's told to be back at a time is back then, and not a second ahead of it."""

    def held(self, calls):
        at = last(*calls, now())[0]
        for team in (0, 1):
            told = ends(team, *calls)
            for time in sorted({time for player, time in told}):
                self.assertGreater(time, at)
                for when in (time - 1, time):
                    self.held_at(calls, team, told, when)

    def held_at(self, calls, team, told, when):
        kept = [(player, time) for player, time in told if time > when]
        if when > 6000:
            self.assertEqual(last(*calls, clock(when)), [-1])
            return
        answered = ask(*calls, clock(when), box(team), till(team))
        self.assertEqual(answered[-2][0], len(kept))
        self.assertEqual(answered[-2][1::5], [player for player, time in kept], (calls, when))
        self.assertEqual(pairs(answered[-1]), kept, (calls, when))

    def test_those_games(self):
        for calls in GAMES:
            self.held(calls)

    def test_made_up_games(self):
        for seed in range(60):
            self.held(made_up(random.Random(seed)))


class Steps(unittest.TestCase):
    """Time in two steps is time in one."""

    def shown(self, calls, *times):
        return ask(*calls, *[clock(time) for time in times], *all_shown())[-7:]

    def held(self, calls, source):
        at = last(*calls, now())[0]
        for _ in range(6):
            end = min(6000, at + source.randrange(1, 1500))
            between = sorted(source.randrange(at, end + 1) for _ in range(source.choice((1, 2, 20, 60))))
            self.assertEqual(self.shown(calls, *between, end), self.shown(calls, end), (calls, between, end))

    def test_those_games(self):
        for calls in GAMES:
            self.held(calls, random.Random(7))

    def test_made_up_games(self):
        for seed in range(60):
            source = random.Random(1000 + seed)
            self.held(made_up(source), source)

    def test_two_steps_at_every_second(self):
        calls = (begin(6), stop(0, (0, 1, MISCONDUCT), (0, 1, MINOR)), stop(540, (0, 2, MINOR), (0, 3, MINOR)))
        for end in (600, 659, 660, 661, 719):
            shown = self.shown(calls, end)
            for time in range(540, end + 1):
                self.assertEqual(self.shown(calls, time, end), shown, (time, end))

    def test_a_stop_with_nothing_is_a_step_too(self):
        for calls in GAMES[:5]:
            at = last(*calls, now())[0]
            for time in (at, at + 1, at + 65, at + 121):
                one = ask(*calls, clock(at + 300), *all_shown())[-7:]
                self.assertEqual(ask(*calls, stop(time), clock(at + 300), *all_shown())[-7:], one)


class Whole(unittest.TestCase):
    """At most two penalties that count run at once; nobody serves two at once."""

    def test_made_up_games(self):
        seen = {}
        for seed in range(60):
            calls = made_up(random.Random(2000 + seed))
            at = last(*calls, now())[0]
            times = [clock(time) for time in range(at, min(6000, at + 900), 20)]
            answered = ask(*calls, *[call for one in times for call in (one, box(0), box(1))])[len(calls):]
            for answer in answered[1::3] + answered[2::3]:
                rows = [answer[k:k + 5] for k in range(1, len(answer), 5)]
                serving = [row[0] for row in rows if row[4]]
                counting = sum(row[3] * row[4] for row in rows)
                self.assertEqual(len(serving), len(set(serving)))
                self.assertLessEqual(counting, 2)
                self.assertTrue(all(row[2] > 0 for row in rows))
                seen[counting] = True
        self.assertEqual(sorted(seen), [0, 1, 2])


def made_up(source):
    """Calls that leave some penalties in both boxes, of few players, so that these wait in many ways."""
    players = source.choice((3, 5, 20))
    calls, time = [begin(source.choice((3, 4, 5, 6)))], source.choice((0, 0, 5000))
    for _ in range(source.randrange(3, 14)):
        time += source.randrange(80)
        told = [(source.randrange(2), source.randrange(players), source.choice((0, 0, 0, 1, 2, 2, 3, 4, 5)))
                for _ in range(source.randrange(4))]
        calls.append(source.choice((stop(time, *told), stop(time, *told), clock(time), goal(time, source.randrange(2)),
                                    signal(*(told or [(0, 1, 0)])[0]))))
    return calls


if __name__ == "__main__":
    unittest.main()
