"""The call that tells the most that somebody may do today by standing yeses alone."""

from justthisdeed.chains import room_of, root_of
from justthisdeed.past import left_today
from justthisdeed.refusals import NO_SUCH
from justthisdeed.sets import has


def most_from(book, person, holder, kind):
    found = 0
    for g in range(len(book.standing)):
        given = book.standing[g]
        if given.kind == kind and given.holder == holder and root_of(book, g) == person:
            found = max(found, min(given.each, room_of(book, g)))
    return found


# A root counts once, so of each the one that allows most is enough; as many as must have to allow it together.
def most_by_standing(book, holder, kind):
    kept = book.rules[kind]
    if kept.need == 0:
        return kept.daily
    allowed = []
    for person in range(book.people):
        if person != holder and has(kept.may, person):
            allowed.append(most_from(book, person, holder, kind))
    if len(allowed) < kept.need:
        return 0
    return sorted(allowed, reverse=True)[kept.need - 1]


def most(book, holder, kind):
    if holder >= book.people or kind >= len(book.rules):
        return -NO_SUCH
    allowed = max(book.rules[kind].free, most_by_standing(book, holder, kind))
    return min(allowed, left_today(book, kind))
