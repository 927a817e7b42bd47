"""The calls that give standing yeses, hand them on, take them back and use them."""

from justthisdeed.chains import beneath, is_living
from justthisdeed.records import MOST_AMOUNT, OPEN, Standing
from justthisdeed.refusals import (
    ALREADY, MORE_THAN_IT_HAS, NO_MORE, NO_SUCH, NOT_ALLOWED, NOT_HOLDING, NOT_OPEN, WRONG_PERSON, WRONG_VALUE)
from justthisdeed.sets import has

MOST_STANDING = 10
MOST_USED = 3


def grant(book, giver, holder, kind, each, total, till):
    if giver >= book.people or holder >= book.people or kind >= len(book.rules):
        return -NO_SUCH
    if each > MOST_AMOUNT or total > MOST_AMOUNT or till < book.day:
        return -WRONG_VALUE
    if giver == holder:
        return -WRONG_PERSON
    if not has(book.rules[kind].may, giver):
        return -NOT_ALLOWED
    new = len(book.standing)
    if new >= MOST_STANDING:
        return -NO_MORE
    book.standing.append(Standing(kind, giver, holder, each, total, till, [new]))
    return new


def hand(book, g, holder, each, total, till):
    if g >= len(book.standing) or holder >= book.people:
        return -NO_SUCH
    given = book.standing[g]
    if holder == given.holder:
        return -WRONG_PERSON
    if not is_living(book, g):
        return -NOT_HOLDING
    if each > given.each or total > given.total or till > given.till:
        return -MORE_THAN_IT_HAS
    new = len(book.standing)
    if new >= MOST_STANDING:
        return -NO_MORE
    book.standing.append(Standing(given.kind, given.holder, holder, each, total, till, [new] + given.chain))
    return new


def revoke(book, g):
    if g >= len(book.standing):
        return -NO_SUCH
    given = book.standing[g]
    if given.taken_back:
        return -ALREADY
    were_living = len([h for h in beneath(book, g) if is_living(book, h)])
    given.taken_back = True
    return were_living


def use(book, r, g):
    if r >= len(book.asked) or g >= len(book.standing):
        return -NO_SUCH
    asked = book.asked[r]
    given = book.standing[g]
    if asked.stage != OPEN:
        return -NOT_OPEN
    if asked.asker != given.holder:
        return -WRONG_PERSON
    if asked.kind != given.kind:
        return -WRONG_VALUE
    if g in asked.uses:
        return -ALREADY
    if len(asked.uses) >= MOST_USED:
        return -NO_MORE
    asked.uses.append(g)
    return len(asked.uses)
