"""The tests' own live table: a dict of balls that are rolled from hit to hit, and copies of all of it to go back to."""

from copy import deepcopy

from cushionshots import errors
from tests.slow import Roll, meetings, pair, some_shot, some_stretch

NAMES = ("add", "roll", "take")


def is_number(value, least=0):
    return type(value) is int and value >= least


def is_shot(table, value):
    """Whether a value of a test is a shot on a table."""
    if type(value) is not tuple or [type(one) for one in value] != [int] * 4 or value[2:] == (0, 0):
        return False
    return 0 <= value[0] <= table[0] and 0 <= value[1] <= table[1]


class SlowTable:
    """A live table of any kind."""

    def __init__(self, table, pockets=(), calm=False, most=None):
        self.table, self.pockets, self.calm, self.most = table, pockets, calm, most
        self.now = {"balls": {}, "fallen": [], "time": 0, "next": 0}
        self.former = []

    def told(self):
        """All that a live table tells of itself."""
        balls, fallen = self.now["balls"], self.now["fallen"]
        words = ["balls " + str(len(balls)), "fallen " + str(len(fallen))]
        words += ["calm"] * self.calm + ["most " + str(self.most)] * (self.most is not None)
        return (tuple(sorted(balls.items())), tuple(fallen), self.now["time"], len(self.former), words)

    def call(self, name, *worths):
        """What a call returns; errors are raised ahead of every change."""
        if name == "undo":
            if not self.former:
                raise errors.NothingToUndo()
            word, self.now = self.former.pop()
            return word
        if name == "try_changes":
            return self.tried(worths)
        before = deepcopy(self.now)
        answer = getattr(self, name)(*worths)
        self.former.append((name, before))
        return answer

    def tried(self, changes):
        other = deepcopy(self)
        answers = []
        for change in changes:
            if type(change) is not tuple or len(change) != 2 or type(change[0]) is not str or change[0] not in NAMES:
                raise errors.InvalidChange()
            answers.append(other.call(*change))
        return answers

    def add(self, shot):
        if not is_shot(self.table, shot):
            raise errors.InvalidShot()
        count = len(self.now["balls"]) + 1
        if self.most is not None and count > self.most:
            raise errors.TooMany(count)
        number = self.now["next"]
        self.now["balls"][number] = shot
        self.now["next"] = number + 1
        return number

    def take(self, number):
        if not is_number(number) or number not in self.now["balls"]:
            raise errors.InvalidBall()
        return self.now["balls"].pop(number)

    def roll(self, many):
        if not is_number(many):
            raise errors.InvalidNumber()
        rounds = many // (2 * self.table[0] * self.table[1]) + 1
        rolls = {number: Roll(self.table, shot, rounds) for number, shot in self.now["balls"].items()}
        falls = {number: self.fall(roll, many) for number, roll in rolls.items()}
        if self.calm:
            self.stay_apart(rolls, falls, many)
        fallen = sorted((time, number) for number, time in falls.items() if time is not None)
        for number, roll in rolls.items():
            if falls[number] is not None:
                del self.now["balls"][number]
                continue
            (x, y), way = roll.state(many)
            assert x.denominator == y.denominator == 1
            self.now["balls"][number] = (int(x), int(y)) + way
        self.now["fallen"] += [number for _, number in fallen]
        self.now["time"] += many
        return [number for _, number in fallen]

    def fall(self, roll, many):
        """The time of the first hit in a pocket up to a time, or None."""
        for hit in roll.hits:
            if hit[0] > many:
                return None
            if any(roll.in_stretch(hit, pocket) for pocket in self.pockets):
                return hit[0]
        return None

    def stay_apart(self, rolls, falls, many):
        found = []
        for number, roll in rolls.items():
            for other, second in rolls.items():
                if number < other:
                    times = meetings(roll, second)
                    ends = [many] + [falls[one] for one in (number, other) if falls[one] is not None]
                    found += [time for time in ([0] if times is None else times) if time <= min(ends)]
        if found:
            raise errors.BallsMeet(pair(min(found)))


def outcome(call, *worths):
    """What a call returns, or its error with what the error tells."""
    try:
        return ("returned", call(*worths))
    except errors.ShotError as caught:
        return (type(caught), getattr(caught, "time", None), getattr(caught, "count", None))


def told_by(live):
    """All that a live table of the package tells of itself."""
    return (live.balls_now, live.fallen_now, live.time_now, len(live), live.told_words())


def some_pockets(chance, table, many):
    """A tuple of stretches of chance, often points."""
    return tuple(some_stretch(chance, table) for _ in range(many))


def some_call(chance, table, numbers, greatest=3, wrong=True):
    """A call of chance other than undo and try_changes, now and then a wrong one."""
    name = chance.choice(("add", "add", "roll", "roll", "roll", "take"))
    if wrong and chance.random() < 0.12:
        worths = (None, True, False, -1, "1", 1.0, (0,), [0], (9, 9, 1, 1), (0, 0, 0, 0), (0, -1, 1, 0), [0, 0, 1, 1])
        return (name, chance.choice(worths))
    if name == "add":
        return (name, some_shot(chance, table, greatest))
    if name == "roll":
        return (name, chance.choice((0, 1, 1, 2, 3, 5, 8, 30)))
    return (name, chance.randint(0, max(numbers, 1)))


def some_changes(chance, table, numbers):
    """Changes of chance, now and then with a value that is none."""
    changes = [some_call(chance, table, numbers, wrong=chance.random() < 0.5) for _ in range(chance.choice((0, 1, 2, 3, 5)))]
    if chance.random() < 0.2:
        no_changes = (
            None, True, 0, "add", (), ("add",), ("add", (0, 0, 1, 1), 1), ["roll", 1], ("undo",), ("undo", 0),
            ("rolls", 1), (None, 1), (["add"], 1), ("try_changes", ()), {"roll": 1}, (b"roll", 1), ("Roll", 1), ("", 1),
        )
        changes.insert(chance.randint(0, len(changes)), chance.choice(no_changes))
    return changes
