"""Made-up games, answered by the program and by a plain model that goes through time second by second."""
import copy
import random
import unittest

from tests.helper import ask, begin, box, clock, goal, minutes, now, signal, stop_row, till


class Refused(Exception):
    pass


def runs_of(team):
    """Which of a team's penalties run, by the words, one after another."""
    run = []
    for place, mine in enumerate(team):
        ahead = team[:place]
        counting = [one for one in run if one["counts"]]
        if all(one["player"] != mine["player"] for one in ahead) and (not mine["counts"] or len(counting) < 2):
            run.append(mine)
    return run


class Model:

    def __init__(self, skaters):
        self.base, self.time, self.teams, self.waiting = skaters, 0, ([], []), []
        self.given, self.scored = [], []

    def out(self, team, player):
        kinds = [kind for who, number, kind in self.given if (who, number) == (team, player)]
        return 4 in kinds or 5 in kinds or kinds.count(1) >= 3

    def skaters(self):
        return [max(3, self.base - sum(one["counts"] for one in runs_of(team))) for team in self.teams]

    def go(self, time):
        if time < self.time or time > 6000:
            raise Refused(-1)
        while self.time < time:
            self.second()

    def second(self):
        self.time += 1
        for team in self.teams:
            for one in runs_of(team):
                one["left"] -= 1
            team[:] = [one for one in team if one["left"]]

    def full(self, more):
        weight = {3: 2, 5: 0}
        return any(len(self.teams[team]) + sum(weight.get(kind, 1) for who, _, kind in more if who == team) > 12
                   for team in (0, 1))

    def come(self, more):
        self.given += more
        new = []
        for team, player, kind in more:
            for served in {3: (0, 0), 4: (1,), 5: ()}.get(kind, (kind,)):
                new.append({"team": team, "player": player, "kind": served, "left": (120, 300, 600)[served]})
        for place, one in enumerate(new):
            alike = [[other for other in new if (other["team"], other["kind"]) == (team, one["kind"])]
                     for team in (0, 1)]
            before = [other for other in new[:place] if (other["team"], other["kind"]) == (one["team"], one["kind"])]
            one["counts"] = one["kind"] != 2 and len(before) >= min(len(alike[0]), len(alike[1]))
            self.teams[one["team"]].append(one)
        self.waiting = []

    def clock(self, time):
        self.go(time)
        return [0] + self.skaters()

    def stop(self, time, row):
        told = [tuple(row[place:place + 3]) for place in range(0, len(row), 3)]
        right = len(row) % 3 == 0 and all(t in (0, 1) and p in range(100) and k in range(6) for t, p, k in told)
        self.go(time)
        if not right:
            raise Refused(-1)
        if any(self.out(team, player) for team, player, _ in told):
            raise Refused(-4)
        more = self.waiting + told
        if self.full(more):
            raise Refused(-5)
        self.come(more)
        return [len(more)] + self.skaters()

    def signal(self, team, player, kind):
        if team not in (0, 1) or player not in range(100) or kind not in range(6):
            raise Refused(-1)
        if self.out(team, player):
            raise Refused(-4)
        if self.full(self.waiting + [(team, player, kind)]):
            raise Refused(-5)
        self.waiting = self.waiting + [(team, player, kind)]
        return [len(self.waiting)]

    def goal(self, time, team):
        self.go(time)
        if team not in (0, 1):
            raise Refused(-1)
        skaters, other, ended = self.skaters(), self.teams[1 - team], -1
        able = [one for one in runs_of(other) if one["counts"] and one["kind"] == 0]
        if skaters[1 - team] < skaters[team] and able:
            least = sorted(able, key=lambda one: one["left"])[0]
            other[:] = [one for one in other if one is not least]
            ended = least["player"]
        else:
            self.waiting = self.pardoned(1 - team)
        self.come(self.waiting)
        self.scored.append(team)
        strength = 0 if skaters[0] == skaters[1] else 1 if skaters[team] > skaters[1 - team] else 2
        return [strength, ended] + self.skaters()

    def now(self):
        return [self.time] + self.skaters() + [self.scored.count(0), self.scored.count(1), len(self.waiting)]

    def asked_of(self, team):
        if team not in (0, 1):
            raise Refused(-1)
        return self.teams[team]

    def box(self, team):
        mine = self.asked_of(team)
        run = [id(one) for one in runs_of(mine)]
        return [len(mine)] + [number for one in mine for number in (
            one["player"], one["kind"], one["left"], 1 if one["counts"] else 0, 1 if id(one) in run else 0)]

    def minutes(self, team):
        self.asked_of(team)
        worth = {0: 2, 1: 5, 2: 10, 3: 4, 4: 25, 5: 20}
        players = []
        for who, player, _ in self.given:
            players += [player] if who == team and player not in players else []
        told = [[player, sum(worth[kind] for who, number, kind in self.given if (who, number) == (team, player)),
                 1 if self.out(team, player) else 0] for player in players]
        return [sum(row[1] for row in told)] + [number for row in told for number in row]

    def till(self, team):
        mine = list(self.asked_of(team))
        later = copy.deepcopy(self)
        # The copies stand where theirs stood, so a copy's place tells whose it is.
        copies, over = list(later.teams[team]), {}
        while len(over) < len(mine):
            later.second()
            left = [id(one) for one in later.teams[team]]
            for place, one in enumerate(copies):
                if id(one) not in left:
                    over.setdefault(place, later.time)
        return [len(mine)] + [number for place, one in enumerate(mine) for number in (one["player"], over[place])]

    def pardoned(self, team):
        kept, done = [], False
        for who, player, kind in self.waiting:
            if not done and who == team and kind in (0, 3):
                done = True
                kept += [(who, player, 0)] if kind == 3 else []
            else:
                kept.append((who, player, kind))
        return kept


def model_answers(calls):
    told, game = [], None
    for name, given in calls:
        if name == "begin":
            right = given[0] in (3, 4, 5, 6)
            game = Model(given[0]) if right else game
            told.append([0 if right else -1])
        elif game is None:
            told.append([-2])
        else:
            before = copy.deepcopy(game)
            try:
                told.append(getattr(game, name)(*given))
            except Refused as refused:
                game = before
                told.append([refused.args[0]])
    return told


NAMES = ("clock", "stop", "stop", "signal", "signal", "goal") * 2 + ("now", "box", "minutes", "till")


def made_up(source):
    """A game's calls: mostly ones that are taken, of few players, so that these meet again."""
    players = source.choice((3, 6, 30))
    kinds = source.choice(((0,), (0, 0, 0, 1, 3), (0, 1, 2, 3, 4, 5), (0, 0, 1, 1, 2, 3)))
    step = source.choice((5, 40, 130, 400))

    def one():
        if source.random() < 0.01:
            return [source.choice((-1, 2, 0)), source.choice((-1, 100, 0)), source.choice((-1, 6, 0))]
        return [source.randrange(2), source.randrange(players), source.choice(kinds)]

    calls, time = [("begin", [source.choice((3, 4, 5, 5, 6))])], 0
    for _ in range(source.randrange(5, 60)):
        if source.random() < 0.6:
            time = min(time + source.randrange(step), 6000)
        told = source.choice((-1, time - 1, 6001)) if source.random() < 0.03 else time
        name = source.choice(NAMES)
        if source.random() < 0.01:
            name = "begin"
        if name == "stop":
            row = [number for _ in range(source.choice((0, 1, 1, 2, 3, 4, 8))) for number in one()]
            given = [told, row[:-1] if source.random() < 0.02 else row]
        else:
            given = {"clock": [told], "goal": [told, source.choice((0, 1) * 20 + (2,))], "signal": one(),
                     "begin": [source.randrange(2, 8)], "now": []}.get(name, [source.choice((0, 1) * 10 + (-1, 2))])
        if name == "begin" and given[0] in (3, 4, 5, 6):
            time = 0
        calls.append((name, given))
    return calls + [("now", [])] + [(name, [team]) for name in ("box", "minutes", "till") for team in (0, 1)]


WRITTEN = {"begin": begin, "clock": clock, "stop": stop_row, "signal": signal, "goal": goal, "now": now, "box": box,
           "minutes": minutes, "till": till}


class SecondBySecond(unittest.TestCase):

    def test_made_up_games(self):
        met = {}
        for seed in range(400):
            calls = made_up(random.Random(seed))
            expected = model_answers(calls)
            self.assertEqual(ask(*[WRITTEN[name](*given) for name, given in calls]), expected, (seed, calls))
            for (name, _), answer in zip(calls, expected):
                met[name, answer[0]] = met.get((name, answer[0]), 0) + 1
        # The games are worth little if they don't meet every answer and every refusal often.
        for name, first in (("clock", 0), ("clock", -1), ("stop", -1), ("stop", -4), ("stop", -5), ("signal", -1),
                            ("signal", -4), ("signal", -5), ("goal", 0), ("goal", 1), ("goal", 2), ("goal", -1),
                            ("box", 0), ("box", 4), ("box", 8), ("box", -1), ("till", 0), ("till", 4), ("till", 8),
                            ("till", -1), ("minutes", 0), ("minutes", 4), ("minutes", -1)):
            self.assertGreater(met.get((name, first), 0), 20, (name, first))


if __name__ == "__main__":
    unittest.main()
