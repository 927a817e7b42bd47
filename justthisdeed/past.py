"""What was done, and the calls that tell it: how many deeds, each as it was done, how much, and what that leaves."""

from justthisdeed.refusals import NO_SUCH


def done_between(book, kind, first, last):
    total = 0
    for deed in book.deeds:
        asked = book.asked[deed.asked]
        if asked.kind == kind and deed.day >= first and deed.day <= last:
            total = total + asked.amount
    return total


def left_today(book, kind):
    # A rule told anew may allow less than was done today already.
    return max(0, book.rules[kind].daily - done_between(book, kind, book.day, book.day))


def done(book):
    return len(book.deeds)


def log(book, i):
    if i >= len(book.deeds):
        return [-NO_SUCH]
    deed = book.deeds[i]
    asked = book.asked[deed.asked]
    numbers = [deed.asked, deed.day, asked.kind, asked.asker, asked.number, asked.amount, deed.counted]
    return numbers + [len(asked.uses)] + asked.uses


def left(book, kind):
    if kind >= len(book.rules):
        return -NO_SUCH
    return left_today(book, kind)


def sum_of(book, kind, first, last):
    if kind >= len(book.rules):
        return -NO_SUCH
    return done_between(book, kind, first, last)
