"""What is kept of one object: people, kinds, what's asked, standing yeses, deeds done and the day."""

MOST_AMOUNT = 1000000

OPEN = 0
DONE = 1
REFUSED = 2
WITHDRAWN = 3


class Rule:
    def __init__(self, may, need, free, daily, lives):
        self.may = may
        self.need = need
        self.free = free
        self.daily = daily
        self.lives = lives


# Told otherwise it is made anew, so that nothing said to the old numbers is left; uses are numbers.
class Asked:
    def __init__(self, asker, kind, number, amount, told):
        self.asker = asker
        self.kind = kind
        self.number = number
        self.amount = amount
        self.told = told
        self.said = 0
        self.uses = []
        self.stage = OPEN


# Its chain is kept whole, its own number first: from whom it comes never changes once it is given.
class Standing:
    def __init__(self, kind, giver, holder, each, total, till, chain):
        self.kind = kind
        self.giver = giver
        self.holder = holder
        self.each = each
        self.total = total
        self.till = till
        self.chain = chain
        self.taken_back = False


# What was asked can't change any more once it's done; who counted could, by rules and standing yeses, so it's kept.
class Deed:
    def __init__(self, asked, day, counted):
        self.asked = asked
        self.day = day
        self.counted = counted


# Without people nothing has begun yet.
class Book:
    def __init__(self, people):
        self.people = people
        self.day = 0
        self.rules = []
        self.asked = []
        self.standing = []
        self.deeds = []
