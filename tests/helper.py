"""Calls written as lists of numbers, and answers taken apart again."""
from icepenalties.games import answers

SMALLEST = -2147483648
LARGEST = 2147483647

MINOR, MAJOR, MISCONDUCT, DOUBLE, MATCH, EXPELLED = range(6)


def begin(skaters=5):
    return [1, skaters]


def clock(time):
    return [2, time]


def stop(time, *penalties):
    """A stop with penalties told as (team, player, kind)."""
    return stop_row(time, [number for penalty in penalties for number in penalty])


def stop_row(time, row):
    return [3, time, len(row)] + list(row)


def signal(team, player, kind):
    return [4, team, player, kind]


def goal(time, team):
    return [5, time, team]


def now():
    return [6]


def box(team):
    return [7, team]


def minutes(team):
    return [8, team]


def till(team):
    return [9, team]


def all_shown():
    """The calls that show all of a game and change nothing of it."""
    return (now(), box(0), box(1), minutes(0), minutes(1), till(0), till(1))


def taken_apart(told):
    answered = []
    place = 0
    while place < len(told):
        end = place + 1 + told[place]
        answered.append(told[place + 1:end])
        place = end
    return answered


def ask(*calls):
    """The answer of each call, as a list of lists."""
    line = [number for call in calls for number in call]
    answered = taken_apart(answers(line))
    assert len(answered) == len(calls), (calls, answered)
    return answered


def last(*calls):
    """The answer of the last call."""
    return ask(*calls)[-1]


def minors(team, players):
    return [(team, player, MINOR) for player in players]
