"""What the tests share: calls by their names, said one behind another on one object."""

from justthisdeed.desk import answers

BIG = 4294967295

# name: (its number, how many whole numbers it has)
CALLS = {
    "begin": (0, 1), "rule": (1, 5), "rerule": (2, 6), "ask": (3, 4), "change": (4, 3), "yes": (5, 4),
    "no": (6, 2), "withdraw": (7, 1), "grant": (8, 6), "hand": (9, 5), "revoke": (10, 1), "use": (11, 2),
    "do": (12, 1), "could": (13, 1), "lacks": (14, 1), "counts": (15, 1), "maysay": (16, 1), "can": (17, 1),
    "tick": (18, 1), "lives": (19, 1), "room": (20, 1), "root": (21, 1), "under": (22, 1), "chain": (23, 1),
    "drawn": (24, 1), "left": (25, 1), "most": (26, 2), "sum_of": (27, 3), "ifyes": (28, 2), "log": (29, 1),
    "done": (30, 0), "asked": (31, 1), "grantis": (32, 1), "ruleis": (33, 1), "today": (34, 0),
}

SEVERAL = ("under", "chain", "log", "asked", "grantis", "ruleis")


def numbers_of(calls):
    """The list of whole numbers for calls like ("ask", 0, 0, 7, 10)."""
    numbers = []
    for name, *told in calls:
        number, length = CALLS[name]
        if len(told) != length:
            raise ValueError(f"{name} has {length} numbers")
        numbers.append(number)
        numbers.extend(told)
    return numbers


def taken_apart(given):
    """The numbers of each answer, out of the list that is given back."""
    rows = []
    at = 0
    while at < len(given):
        behind = at + 1 + given[at]
        if given[at] < 1 or behind > len(given):
            raise AssertionError(f"no such answer at {at}: {given}")
        rows.append(given[at + 1:behind])
        at = behind
    return rows


def answered(calls):
    """What each call answered: one number; of those that tell several a list, if it isn't a refusal."""
    rows = taken_apart(answers(numbers_of(calls)))
    if len(rows) != len(calls):
        raise AssertionError(f"not one answer for each call: {rows}")
    found = []
    for (name, *_), row in zip(calls, rows, strict=True):
        if name in SEVERAL and row[0] >= 0:
            found.append(row)
        elif len(row) == 1:
            found.append(row[0])
        else:
            raise AssertionError(f"more than one number for {name}: {row}")
    return found


class Line:
    """An object on which calls are said by name; each answers what its call answers."""

    def __init__(self, people=None):
        self.calls = []
        if people is not None:
            self.begin(people)

    def __getattr__(self, name):
        if name not in CALLS:
            raise AttributeError(name)

        def say(*told):
            self.calls.append((name,) + told)
            return answered(self.calls)[-1]
        return say

    def all_of(self, name, *rows):
        for told in rows:
            getattr(self, name)(*told)
        return self

    def each(self, name, *values):
        """What a call of one number answers for each of these."""
        return [getattr(self, name)(value) for value in values]

    def to_day(self, day):
        """Lets days pass up to that one."""
        while self.today() < day:
            self.tick(min(30, day - self.today()))
        return self


def a_line(people=4, may=15, need=1, free=0, daily=1000, lives=5):
    """A line with people and a kind 0 of this rule."""
    line = Line(people)
    line.rule(may, need, free, daily, lives)
    return line
