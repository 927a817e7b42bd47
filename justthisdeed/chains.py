"""What standing yeses come from and allow, and the calls that tell it."""

from justthisdeed.refusals import NO_SUCH


def is_living(book, g):
    for link in book.standing[g].chain:
        given = book.standing[link]
        if given.taken_back or book.day > given.till:
            return False
    return True


def beneath(book, g):
    return [h for h in range(len(book.standing)) if g in book.standing[h].chain]


def root_of(book, g):
    last = book.standing[g].chain[-1]
    return book.standing[last].giver


def draws_on(book, asked, g):
    for used in asked.uses:
        if g in book.standing[used].chain:
            return True
    return False


# A deed is added once, however many of those beneath g it used.
def drawn_by(book, g):
    total = 0
    for deed in book.deeds:
        asked = book.asked[deed.asked]
        if draws_on(book, asked, g):
            total = total + asked.amount
    return total


def room_of(book, g):
    if not is_living(book, g):
        return 0
    return min([book.standing[link].total - drawn_by(book, link) for link in book.standing[g].chain])


def holds(book, g, amount):
    # An amount of 0 fits into any room, so that it's living is asked for by itself.
    return is_living(book, g) and amount <= book.standing[g].each and amount <= room_of(book, g)


def lives(book, g):
    if g >= len(book.standing):
        return -NO_SUCH
    if is_living(book, g):
        return 1
    return 0


def room(book, g):
    if g >= len(book.standing):
        return -NO_SUCH
    return room_of(book, g)


def root(book, g):
    if g >= len(book.standing):
        return -NO_SUCH
    return root_of(book, g)


def under(book, g):
    if g >= len(book.standing):
        return [-NO_SUCH]
    found = beneath(book, g)
    return [len(found)] + found


def chain(book, g):
    if g >= len(book.standing):
        return [-NO_SUCH]
    links = book.standing[g].chain
    return [len(links)] + links


def drawn(book, g):
    if g >= len(book.standing):
        return -NO_SUCH
    return drawn_by(book, g)


def grantis(book, g):
    if g >= len(book.standing):
        return [-NO_SUCH]
    given = book.standing[g]
    # Told one more than it is, so that 0 is left for what isn't handed on.
    handed_from = 0
    if len(given.chain) > 1:
        handed_from = given.chain[1] + 1
    taken_back = 0
    if given.taken_back:
        taken_back = 1
    return [given.kind, given.giver, given.holder, given.each, given.total, given.till, handed_from, taken_back]
