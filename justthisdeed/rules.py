"""The calls that make the rules of the kinds of deed, and the one that tells a rule."""

from justthisdeed.records import MOST_AMOUNT, Rule
from justthisdeed.refusals import NO_MORE, NO_SUCH, WRONG_VALUE
from justthisdeed.sets import is_set

MOST_KINDS = 4
MOST_NEED = 3
LONGEST_LIFE = 30


def is_rule(book, may, need, free, daily, lives):
    if not is_set(may, book.people) or need > MOST_NEED:
        return False
    if free > MOST_AMOUNT or daily > MOST_AMOUNT:
        return False
    return lives >= 1 and lives <= LONGEST_LIFE


def rule(book, may, need, free, daily, lives):
    if not is_rule(book, may, need, free, daily, lives):
        return -WRONG_VALUE
    if len(book.rules) >= MOST_KINDS:
        return -NO_MORE
    book.rules.append(Rule(may, need, free, daily, lives))
    return len(book.rules) - 1


def rerule(book, kind, may, need, free, daily, lives):
    if kind >= len(book.rules):
        return -NO_SUCH
    if not is_rule(book, may, need, free, daily, lives):
        return -WRONG_VALUE
    book.rules[kind] = Rule(may, need, free, daily, lives)
    return 0


def ruleis(book, kind):
    if kind >= len(book.rules):
        return [-NO_SUCH]
    kept = book.rules[kind]
    return [kept.may, kept.need, kept.free, kept.daily, kept.lives]
