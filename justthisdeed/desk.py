"""The one function that is called from outside: it takes a list of calls and gives back their answers."""

from justthisdeed.asking import ask, change, maysay, no, withdraw, yes
from justthisdeed.deeds import can, could, counts, do, lacks
from justthisdeed.records import Book
from justthisdeed.refusals import NOT_BEGUN, WRONG_VALUE
from justthisdeed.rules import rerule, rule
from justthisdeed.standing import grant, hand, revoke, use

MOST_PEOPLE = 8

BEGIN = 0
RULE = 1
RERULE = 2
ASK = 3
CHANGE = 4
YES = 5
NO = 6
WITHDRAW = 7
GRANT = 8
HAND = 9
REVOKE = 10
USE = 11
DO = 12
COULD = 13
LACKS = 14
COUNTS = 15
MAYSAY = 16
CAN = 17

# How many whole numbers stand behind each call's own number.
LENGTHS = (1, 5, 6, 4, 3, 4, 2, 1, 6, 5, 1, 2, 1, 1, 1, 1, 1, 1)


def answer_on_rules(book, call, told):
    if call == RULE:
        return rule(book, told[0], told[1], told[2], told[3], told[4])
    return rerule(book, told[0], told[1], told[2], told[3], told[4], told[5])


def answer_on_asking(book, call, told):
    if call == ASK:
        return ask(book, told[0], told[1], told[2], told[3])
    if call == CHANGE:
        return change(book, told[0], told[1], told[2])
    if call == YES:
        return yes(book, told[0], told[1], told[2], told[3])
    if call == NO:
        return no(book, told[0], told[1])
    return withdraw(book, told[0])


def answer_on_standing(book, call, told):
    if call == GRANT:
        return grant(book, told[0], told[1], told[2], told[3], told[4], told[5])
    if call == HAND:
        return hand(book, told[0], told[1], told[2], told[3], told[4])
    if call == REVOKE:
        return revoke(book, told[0])
    return use(book, told[0], told[1])


def answer_on_deeds(book, call, told):
    if call == DO:
        return do(book, told[0])
    if call == COULD:
        return could(book, told[0])
    if call == LACKS:
        return lacks(book, told[0])
    if call == COUNTS:
        return counts(book, told[0])
    if call == MAYSAY:
        return maysay(book, told[0])
    return can(book, told[0])


def answer_of(book, call, told):
    if book.people == 0:
        return -NOT_BEGUN
    if call <= RERULE:
        return answer_on_rules(book, call, told)
    if call <= WITHDRAW:
        return answer_on_asking(book, call, told)
    if call <= USE:
        return answer_on_standing(book, call, told)
    return answer_on_deeds(book, call, told)


def answers(calls):
    book = Book(0)
    given = []
    at = 0
    while at < len(calls):
        call = calls[at]
        behind = at + 1 + LENGTHS[call]
        told = calls[at + 1:behind]
        at = behind
        if call != BEGIN:
            answer = answer_of(book, call, told)
        elif told[0] < 1 or told[0] > MOST_PEOPLE:
            answer = -WRONG_VALUE
        else:
            book = Book(told[0])
            answer = 0
        given.extend([1, answer])
    return given
