"""The one function that is called from outside: it takes a list of calls and gives back their answers."""

from justthisdeed.asking import ask, askedis, change, maysay, no, withdraw, yes
from justthisdeed.chains import chain, drawn, grantis, lives, room, root, under
from justthisdeed.days import tick, today
from justthisdeed.deeds import can, could, counts, do, ifyes, lacks
from justthisdeed.past import done, left, log, sum_of
from justthisdeed.reach import most
from justthisdeed.records import Book
from justthisdeed.refusals import NOT_BEGUN, WRONG_VALUE
from justthisdeed.rules import rerule, rule, ruleis
from justthisdeed.standing import grant, hand, revoke, use

MOST_PEOPLE = 8

BEGIN = 0
RULE = 1
RERULE = 2
ASK = 3
CHANGE = 4
YES = 5
NO = 6
WITHDRAW = 7
GRANT = 8
HAND = 9
REVOKE = 10
USE = 11
DO = 12
COULD = 13
LACKS = 14
COUNTS = 15
MAYSAY = 16
CAN = 17
TICK = 18
LIVES = 19
ROOM = 20
ROOT = 21
UNDER = 22
CHAIN = 23
DRAWN = 24
LEFT = 25
MOST = 26
SUM_OF = 27
IFYES = 28
LOG = 29
DONE = 30
ASKED = 31
GRANTIS = 32
RULEIS = 33
TODAY = 34

# How many whole numbers stand behind each call's own number.
LENGTHS = (1, 5, 6, 4, 3, 4, 2, 1, 6, 5, 1, 2, 1, 1, 1, 1, 1, 1, 1, 1, 1, 1, 1, 1, 1, 1, 2, 3, 2, 1, 0, 1, 1, 1, 0)


def answer_on_rules(book, call, told):
    if call == RULE:
        return rule(book, told[0], told[1], told[2], told[3], told[4])
    return rerule(book, told[0], told[1], told[2], told[3], told[4], told[5])


def answer_on_asking(book, call, told):
    if call == ASK:
        return ask(book, told[0], told[1], told[2], told[3])
    if call == CHANGE:
        return change(book, told[0], told[1], told[2])
    if call == YES:
        return yes(book, told[0], told[1], told[2], told[3])
    if call == NO:
        return no(book, told[0], told[1])
    return withdraw(book, told[0])


def answer_on_standing(book, call, told):
    if call == GRANT:
        return grant(book, told[0], told[1], told[2], told[3], told[4], told[5])
    if call == HAND:
        return hand(book, told[0], told[1], told[2], told[3], told[4])
    if call == REVOKE:
        return revoke(book, told[0])
    return use(book, told[0], told[1])


def answer_on_deeds(book, call, told):
    if call == DO:
        return do(book, told[0])
    if call == COULD:
        return could(book, told[0])
    if call == LACKS:
        return lacks(book, told[0])
    if call == COUNTS:
        return counts(book, told[0])
    if call == MAYSAY:
        return maysay(book, told[0])
    return can(book, told[0])


def answer_on_chains(book, call, told):
    if call == LIVES:
        return lives(book, told[0])
    if call == ROOM:
        return room(book, told[0])
    if call == ROOT:
        return root(book, told[0])
    return drawn(book, told[0])


def answer_on_the_past(book, call, told):
    if call == LEFT:
        return left(book, told[0])
    if call == SUM_OF:
        return sum_of(book, told[0], told[1], told[2])
    return done(book)


def one_number(book, call, told):
    if call <= RERULE:
        return answer_on_rules(book, call, told)
    if call <= WITHDRAW:
        return answer_on_asking(book, call, told)
    if call <= USE:
        return answer_on_standing(book, call, told)
    if call <= CAN:
        return answer_on_deeds(book, call, told)
    if call == TICK:
        return tick(book, told[0])
    if call <= DRAWN:
        return answer_on_chains(book, call, told)
    if call == MOST:
        return most(book, told[0], told[1])
    if call == IFYES:
        return ifyes(book, told[0], told[1])
    if call == TODAY:
        return today(book)
    return answer_on_the_past(book, call, told)


def several_numbers(book, call, told):
    if call == UNDER:
        return under(book, told[0])
    if call == CHAIN:
        return chain(book, told[0])
    if call == LOG:
        return log(book, told[0])
    if call == ASKED:
        return askedis(book, told[0])
    if call == GRANTIS:
        return grantis(book, told[0])
    return ruleis(book, told[0])


def answer_of(book, call, told):
    if book.people == 0:
        return [-NOT_BEGUN]
    if call in (UNDER, CHAIN, LOG, ASKED, GRANTIS, RULEIS):
        return several_numbers(book, call, told)
    return [one_number(book, call, told)]


def answers(calls):
    book = Book(0)
    given = []
    at = 0
    while at < len(calls):
        call = calls[at]
        behind = at + 1 + LENGTHS[call]
        told = calls[at + 1:behind]
        at = behind
        if call != BEGIN:
            answer = answer_of(book, call, told)
        elif told[0] < 1 or told[0] > MOST_PEOPLE:
            answer = [-WRONG_VALUE]
        else:
            book = Book(told[0])
            answer = [0]
        given.append(len(answer))
        given.extend(answer)
    return given
