"""The calls on days: they are numbered from 0, and go on by tick alone."""

from justthisdeed.refusals import WRONG_VALUE

LONGEST_TICK = 30


def tick(book, days):
    if days < 1 or days > LONGEST_TICK:
        return -WRONG_VALUE
    book.day = book.day + days
    return book.day


def today(book):
    return book.day
