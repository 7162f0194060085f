"""The penalties of one ice hockey game, answered call by call."""

BEGIN = 1
CLOCK = 2
STOP = 3
SIGNAL = 4
GOAL = 5
NOW = 6
BOX = 7
MINUTES = 8

# By a call's number: how many whole numbers stand behind it (a stop's row comes behind these).
WHOLE_NUMBERS = {1: 1, 2: 1, 3: 1, 4: 3, 5: 2, 6: 0, 7: 1, 8: 1, 9: 1}

WRONG = -1
NO_GAME = -2
OUT_OF_GAME = -4
TOO_MANY = -5

TEAMS = (0, 1)
FEWEST_SKATERS = 3
MOST_SKATERS = 6
LAST_PLAYER = 99
LAST_TIME = 6000
MOST_COUNTING = 2
MOST_PENALTIES = 12
MAJORS_TO_BE_OUT = 3
NOBODY = -1

MINOR = 0
MAJOR = 1
MISCONDUCT = 2
DOUBLE_MINOR = 3
MATCH = 4
EXPULSION = 5

# By the kind that is told: the minors, majors and misconducts to be served, and the minutes noted.
SERVED = ((0,), (1,), (2,), (0, 0), (1,), ())
MINUTES_NOTED = (2, 5, 10, 4, 25, 20)
# Of a minor, a major, a misconduct.
SECONDS = (120, 300, 600)


class Penalty:
    """One minor, major or misconduct that isn't over."""

    def __init__(self, player, kind, left, counts):
        self.player = player
        self.kind = kind
        self.left = left
        self.counts = counts

    def less(self, seconds):
        return Penalty(self.player, self.kind, self.left - seconds, self.counts)


def running(box):
    """Whether each of a team's penalties runs, in their order."""
    answer = []
    players = {}
    counting = 0
    for penalty in box:
        runs = penalty.player not in players and not (penalty.counts and counting == MOST_COUNTING)
        if runs and penalty.counts:
            counting += 1
        players[penalty.player] = True
        answer.append(runs)
    return answer


def until_one_is_over(box):
    """The seconds until the first of those that run is over; who runs stays the same up to then."""
    runs = running(box)
    return min([box[k].left for k in range(len(box)) if runs[k]])


def with_less_left(box, seconds):
    """A team's penalties, those that run with so many seconds less, the ones with nothing left too."""
    runs = running(box)
    return [box[k].less(seconds) if runs[k] else box[k] for k in range(len(box))]


def box_after(box, seconds):
    """A team's penalties that aren't over when so many seconds have gone by."""
    while box and seconds > 0:
        step = min(seconds, until_one_is_over(box))
        box = [penalty for penalty in with_less_left(box, step) if penalty.left > 0]
        seconds -= step
    return box


def times_over(box, time):
    """At which time each of a team's penalties is over if nothing else comes, in their order."""
    times = [time for penalty in box]
    # Where those that aren't over yet stood at the beginning.
    places = list(range(len(box)))
    while places:
        step = until_one_is_over(box)
        time += step
        # Each is given every later time up to the one at which it is over.
        for place in places:
            times[place] = time
        served = with_less_left(box, step)
        kept = [k for k in range(len(served)) if served[k].left > 0]
        box = [served[k] for k in kept]
        places = [places[k] for k in kept]
    return times


def skaters_with(box, skaters):
    """How many a team with these penalties plays with, out of so many skaters."""
    runs = running(box)
    counting = [k for k in range(len(box)) if runs[k] and box[k].counts]
    return max(FEWEST_SKATERS, skaters - len(counting))


def minor_to_end(box):
    """Where the minor stands that a goal would end, or -1 if there is none."""
    runs = running(box)
    found = -1
    for k in range(len(box)):
        if runs[k] and box[k].counts and box[k].kind == MINOR:
            if found < 0 or box[k].left < box[found].left:
                found = k
    return found


def of_kind(box, kind):
    return [penalty for penalty in box if penalty.kind == kind]


def boxes_of(coming):
    """Both teams' penalties of those that come at once, with what cancels not counting."""
    boxes = [[], []]
    for team, player, told in coming:
        for kind in SERVED[told]:
            boxes[team].append(Penalty(player, kind, SECONDS[kind], kind != MISCONDUCT))
    for kind in (MINOR, MAJOR):
        for one, other in zip(of_kind(boxes[0], kind), of_kind(boxes[1], kind)):
            one.counts = False
            other.counts = False
    return boxes


def too_many(boxes, coming):
    """Whether a team would have more penalties than it may with those that come."""
    for team in TEAMS:
        more = sum([len(SERVED[kind]) for against, player, kind in coming if against == team])
        if len(boxes[team]) + more > MOST_PENALTIES:
            return True
    return False


def without_first_minor(signalled, team):
    """What is signalled, less the first minor against the team, alone or of a double one."""
    for k in range(len(signalled)):
        told = signalled[k]
        if told[0] == team and told[2] in (MINOR, DOUBLE_MINOR):
            kept = [(team, told[1], MINOR)] if told[2] == DOUBLE_MINOR else []
            return signalled[:k] + kept + signalled[k + 1:]
    return signalled


def threes(row):
    return [(row[k], row[k + 1], row[k + 2]) for k in range(0, len(row), 3)]


def well_told(team, player, kind):
    return team in TEAMS and 0 <= player <= LAST_PLAYER and MINOR <= kind <= EXPULSION


def row_well_told(row):
    return len(row) % 3 == 0 and all([well_told(told[0], told[1], told[2]) for told in threes(row)])


class Game:
    """A game from its beginning on; a call that is refused changes nothing of it."""

    def __init__(self, skaters):
        self.skaters = skaters
        self.time = 0
        self.boxes = [[], []]
        self.signalled = []
        self.goals = [0, 0]
        # By team and player: the minutes noted, the majors given, who is out of the game.
        self.noted = {}
        self.majors = {}
        self.out = {}

    def clock(self, time):
        if not self.may_be(time):
            return [WRONG]
        self.pass_to(time)
        return [0] + self.both_skaters()

    def stop(self, time, row):
        if not self.may_be(time) or not row_well_told(row):
            return [WRONG]
        coming = self.signalled + threes(row)
        if self.tells_of_one_out(coming):
            return [OUT_OF_GAME]
        if too_many(self.boxes_at(time), coming):
            return [TOO_MANY]
        self.pass_to(time)
        self.bring(coming)
        return [len(coming)] + self.both_skaters()

    def signal(self, team, player, kind):
        if not well_told(team, player, kind):
            return [WRONG]
        told = (team, player, kind)
        if self.tells_of_one_out([told]):
            return [OUT_OF_GAME]
        if too_many(self.boxes, self.signalled + [told]):
            return [TOO_MANY]
        self.signalled.append(told)
        return [len(self.signalled)]

    def goal(self, time, team):
        if not self.may_be(time) or team not in TEAMS:
            return [WRONG]
        self.pass_to(time)
        self.goals[team] += 1
        strength = self.strength(team)
        ended = self.end_minor(1 - team) if strength == 1 else NOBODY
        if ended == NOBODY:
            self.signalled = without_first_minor(self.signalled, 1 - team)
        self.bring(self.signalled)
        return [strength, ended] + self.both_skaters()

    def now(self):
        return [self.time] + self.both_skaters() + self.goals + [len(self.signalled)]

    def box(self, team):
        penalties = self.boxes[team]
        answer = [len(penalties)]
        for penalty, runs in zip(penalties, running(penalties)):
            answer.extend([penalty.player, penalty.kind, penalty.left, int(penalty.counts), int(runs)])
        return answer

    def minutes(self, team):
        players = [player for of_team, player in self.noted if of_team == team]
        answer = [sum([self.noted[(team, player)] for player in players])]
        for player in players:
            who = (team, player)
            answer.extend([player, self.noted[who], int(who in self.out)])
        return answer

    def till(self, team):
        penalties = self.boxes[team]
        answer = [len(penalties)]
        for penalty, time in zip(penalties, times_over(penalties, self.time)):
            answer.extend([penalty.player, time])
        return answer

    def may_be(self, time):
        return self.time <= time <= LAST_TIME

    def boxes_at(self, time):
        return [box_after(box, time - self.time) for box in self.boxes]

    def pass_to(self, time):
        self.boxes = self.boxes_at(time)
        self.time = time

    def both_skaters(self):
        return [skaters_with(box, self.skaters) for box in self.boxes]

    def strength(self, team):
        """0 if both teams have as many skaters, 1 if this one has more, 2 if it has fewer."""
        skaters = self.both_skaters()
        if skaters[team] == skaters[1 - team]:
            return 0
        return 1 if skaters[team] > skaters[1 - team] else 2

    def end_minor(self, team):
        """Ends the team's minor that a goal ends; gives back whose it was."""
        box = self.boxes[team]
        k = minor_to_end(box)
        if k < 0:
            return NOBODY
        self.boxes[team] = box[:k] + box[k + 1:]
        return box[k].player

    def tells_of_one_out(self, coming):
        return any([(team, player) in self.out for team, player, kind in coming])

    def bring(self, coming):
        """All that comes at once comes now, and nothing is signalled any more."""
        boxes = boxes_of(coming)
        for team in TEAMS:
            self.boxes[team] = self.boxes[team] + boxes[team]
        for team, player, kind in coming:
            self.note((team, player), kind)
        self.signalled = []

    def note(self, who, kind):
        self.noted[who] = self.noted.get(who, 0) + MINUTES_NOTED[kind]
        self.majors[who] = self.majors.get(who, 0) + SERVED[kind].count(MAJOR)
        if kind in (MATCH, EXPULSION) or self.majors[who] >= MAJORS_TO_BE_OUT:
            self.out[who] = True


def may_begin(skaters):
    return FEWEST_SKATERS <= skaters <= MOST_SKATERS


def read_calls(calls):
    """Of each call its number, its whole numbers, and its row (empty but at a stop)."""
    read = []
    k = 0
    while k < len(calls):
        call = calls[k]
        end = k + 1 + WHOLE_NUMBERS[call]
        numbers = calls[k + 1:end]
        row = []
        if call == STOP:
            row = calls[end + 1:end + 1 + calls[end]]
            end = end + 1 + calls[end]
        read.append((call, numbers, row))
        k = end
    return read


def answer_of_team(game, call, team):
    if team not in TEAMS:
        return [WRONG]
    if call == BOX:
        return game.box(team)
    if call == MINUTES:
        return game.minutes(team)
    return game.till(team)


def answer_in_game(game, call, numbers, row):
    if call == CLOCK:
        return game.clock(numbers[0])
    if call == STOP:
        return game.stop(numbers[0], row)
    if call == SIGNAL:
        return game.signal(numbers[0], numbers[1], numbers[2])
    if call == GOAL:
        return game.goal(numbers[0], numbers[1])
    if call == NOW:
        return game.now()
    return answer_of_team(game, call, numbers[0])


def answers(calls):
    """The answers to the calls of one list, each with how many numbers it has before it."""
    told = []
    game = None
    for call, numbers, row in read_calls(calls):
        if call == BEGIN and may_begin(numbers[0]):
            game = Game(numbers[0])
            answer = [0]
        elif call == BEGIN:
            answer = [WRONG]
        elif game is None:
            answer = [NO_GAME]
        else:
            answer = answer_in_game(game, call, numbers, row)
        told.append(len(answer))
        told.extend(answer)
    return told
