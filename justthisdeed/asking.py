"""The calls on what's asked: asking, telling it otherwise, yes, no, taking it back, and telling how it stands."""

from justthisdeed.records import MOST_AMOUNT, OPEN, REFUSED, WITHDRAWN, Asked
from justthisdeed.refusals import (
    ALREADY, NO_MORE, NO_SUCH, NOT_ALLOWED, NOT_OPEN, OTHER_NUMBERS, TOO_OLD, WRONG_PERSON, WRONG_VALUE)
from justthisdeed.sets import has, how_many

MOST_ASKED = 12


def too_old(book, asked):
    return book.day - asked.told > book.rules[asked.kind].lives


def ask(book, person, kind, number, amount):
    if person >= book.people or kind >= len(book.rules):
        return -NO_SUCH
    if amount > MOST_AMOUNT:
        return -WRONG_VALUE
    if len(book.asked) >= MOST_ASKED:
        return -NO_MORE
    book.asked.append(Asked(person, kind, number, amount, book.day))
    return len(book.asked) - 1


def change(book, r, number, amount):
    if r >= len(book.asked):
        return -NO_SUCH
    if amount > MOST_AMOUNT:
        return -WRONG_VALUE
    asked = book.asked[r]
    if asked.stage != OPEN:
        return -NOT_OPEN
    book.asked[r] = Asked(asked.asker, asked.kind, number, amount, book.day)
    return 0


def refusal_of_yes(book, person, asked, number, amount):
    if asked.stage != OPEN:
        return -NOT_OPEN
    if too_old(book, asked):
        return -TOO_OLD
    if person == asked.asker:
        return -WRONG_PERSON
    if not has(book.rules[asked.kind].may, person):
        return -NOT_ALLOWED
    if number != asked.number or amount != asked.amount:
        return -OTHER_NUMBERS
    if has(asked.said, person):
        return -ALREADY
    return 0


def yes(book, person, r, number, amount):
    if person >= book.people or r >= len(book.asked):
        return -NO_SUCH
    asked = book.asked[r]
    refusal = refusal_of_yes(book, person, asked, number, amount)
    if refusal < 0:
        return refusal
    asked.said = asked.said | (1 << person)
    return how_many(asked.said)


# Asks for each what their yes would be refused for, so that it can't tell otherwise than yes does.
def may_still_say(book, asked):
    people = 0
    for person in range(book.people):
        if refusal_of_yes(book, person, asked, asked.number, asked.amount) == 0:
            people = people | (1 << person)
    return people


def no(book, person, r):
    if person >= book.people or r >= len(book.asked):
        return -NO_SUCH
    asked = book.asked[r]
    if asked.stage != OPEN:
        return -NOT_OPEN
    if not has(book.rules[asked.kind].may, person):
        return -NOT_ALLOWED
    asked.stage = REFUSED
    return 0


def withdraw(book, r):
    if r >= len(book.asked):
        return -NO_SUCH
    asked = book.asked[r]
    if asked.stage != OPEN:
        return -NOT_OPEN
    asked.stage = WITHDRAWN
    return 0


def maysay(book, r):
    if r >= len(book.asked):
        return -NO_SUCH
    return may_still_say(book, book.asked[r])


def askedis(book, r):
    if r >= len(book.asked):
        return [-NO_SUCH]
    asked = book.asked[r]
    numbers = [asked.kind, asked.asker, asked.number, asked.amount, asked.told, asked.stage, asked.said]
    return numbers + [len(asked.uses)] + asked.uses
