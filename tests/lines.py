"""What the tests share: calls by their names, said one behind another on one object."""

from justthisdeed.desk import answers

BIG = 4294967295

# name: (its number, how many whole numbers it has)
CALLS = {
    "begin": (0, 1), "rule": (1, 5), "rerule": (2, 6), "ask": (3, 4), "change": (4, 3), "yes": (5, 4),
    "no": (6, 2), "withdraw": (7, 1), "grant": (8, 6), "hand": (9, 5), "revoke": (10, 1), "use": (11, 2),
    "do": (12, 1), "could": (13, 1), "lacks": (14, 1), "counts": (15, 1), "maysay": (16, 1), "can": (17, 1),
}


def numbers_of(calls):
    """The list of whole numbers for calls like ("ask", 0, 0, 7, 10)."""
    numbers = []
    for name, *told in calls:
        number, length = CALLS[name]
        if len(told) != length:
            raise ValueError(f"{name} has {length} numbers")
        numbers.append(number)
        numbers.extend(told)
    return numbers


def answered(calls):
    """What each call answered; all of these calls answer one number alone."""
    numbers = numbers_of(calls)
    given = answers(numbers)
    if len(given) != 2 * len(calls) or any(length != 1 for length in given[0::2]):
        raise AssertionError(f"not one number for each call: {given}")
    return given[1::2]


class Line:
    """An object on which calls are said by name; each answers what its call answers."""

    def __init__(self, people=None):
        self.calls = []
        if people is not None:
            self.begin(people)

    def __getattr__(self, name):
        if name not in CALLS:
            raise AttributeError(name)

        def say(*told):
            self.calls.append((name,) + told)
            return answered(self.calls)[-1]
        return say

    def all_of(self, name, *rows):
        for told in rows:
            getattr(self, name)(*told)
        return self


def a_line(people=4, may=15, need=1, free=0, daily=1000, lives=5):
    """A line with people and a kind 0 of this rule."""
    line = Line(people)
    line.rule(may, need, free, daily, lives)
    return line
