"""Sets of people, each told as a number: person k counts 2 to the power of k."""


def is_set(people, there_are):
    return people < (1 << there_are)


def has(people, person):
    return (people >> person) & 1 == 1


def how_many(people):
    found = 0
    rest = people
    while rest > 0:
        found = found + (rest & 1)
        rest = rest >> 1
    return found
