"""The calls that do what's asked, and those that tell what is still missing for it."""

from justthisdeed.asking import may_still_say, too_old
from justthisdeed.chains import holds, root_of
from justthisdeed.past import left_today
from justthisdeed.records import DONE, OPEN, Deed
from justthisdeed.refusals import NO_MORE, NO_SUCH, NOT_ALLOWED, NOT_HOLDING, NOT_OPEN, TOO_OLD, WRONG_VALUE
from justthisdeed.sets import how_many, is_set


# Who said yes is handed in here and below, because can and ifyes ask what it would be if more had.
def who_count(book, asked, said):
    people = said
    for g in asked.uses:
        if holds(book, g, asked.amount):
            people = people | (1 << root_of(book, g))
    return people & book.rules[asked.kind].may & ~(1 << asked.asker)


def how_many_must(book, asked):
    kept = book.rules[asked.kind]
    if asked.amount <= kept.free:
        return 0
    return kept.need


def how_many_lack(book, asked, said):
    return max(0, how_many_must(book, asked) - how_many(who_count(book, asked, said)))


def refusal_of_deed(book, asked, said):
    if asked.stage != OPEN:
        return -NOT_OPEN
    if too_old(book, asked):
        return -TOO_OLD
    for g in asked.uses:
        if not holds(book, g, asked.amount):
            return -NOT_HOLDING
    if how_many_lack(book, asked, said) > 0:
        return -NOT_ALLOWED
    if asked.amount > left_today(book, asked.kind):
        return -NO_MORE
    return 0


def do(book, r):
    refusal = could(book, r)
    if refusal < 0:
        return refusal
    asked = book.asked[r]
    # Ahead of the deed: it may draw all that was left of a standing yes, which then holds for it no more.
    counted = who_count(book, asked, asked.said)
    asked.stage = DONE
    book.deeds.append(Deed(r, book.day, counted))
    return len(book.deeds)


def could(book, r):
    if r >= len(book.asked):
        return -NO_SUCH
    asked = book.asked[r]
    return refusal_of_deed(book, asked, asked.said)


def ifyes(book, r, people):
    if r >= len(book.asked):
        return -NO_SUCH
    if not is_set(people, book.people):
        return -WRONG_VALUE
    asked = book.asked[r]
    return refusal_of_deed(book, asked, asked.said | people)


def lacks(book, r):
    if r >= len(book.asked):
        return -NO_SUCH
    asked = book.asked[r]
    return how_many_lack(book, asked, asked.said)


def counts(book, r):
    if r >= len(book.asked):
        return -NO_SUCH
    asked = book.asked[r]
    return who_count(book, asked, asked.said)


def can(book, r):
    if r >= len(book.asked):
        return -NO_SUCH
    asked = book.asked[r]
    if asked.stage != OPEN or too_old(book, asked):
        return 0
    if how_many_lack(book, asked, asked.said | may_still_say(book, asked)) > 0:
        return 0
    return 1
