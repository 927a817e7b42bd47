"""What days do to points 2 to 4: too old, past its day, done on another day."""

import unittest

from justthisdeed.asking import ask, change, maysay, no, withdraw, yes
from justthisdeed.records import Book
from justthisdeed.deeds import can, could, counts, do, lacks
from justthisdeed.rules import rerule, rule
from justthisdeed.standing import grant, hand, revoke, room_of, use


def a_book(need=1, free=0, daily=100, lives=3):
    book = Book(4)
    rule(book, 15, need, free, daily, lives)
    return book


class TooOld(unittest.TestCase):
    def setUp(self):
        self.book = a_book(lives=3)
        self.book.day = 2
        ask(self.book, 0, 0, 7, 5)

    def test_on_the_last_day_it_lives(self):
        self.book.day = 5
        self.assertEqual((maysay(self.book, 0), can(self.book, 0)), (14, 1))
        self.assertEqual(yes(self.book, 1, 0, 7, 5), 1)
        self.assertEqual((could(self.book, 0), do(self.book, 0)), (0, 1))

    def test_behind_it_no_more(self):
        yes(self.book, 1, 0, 7, 5)
        self.book.day = 6
        self.assertEqual(yes(self.book, 2, 0, 7, 5), -8)
        self.assertEqual((could(self.book, 0), do(self.book, 0)), (-8, -8))
        self.assertEqual((maysay(self.book, 0), can(self.book, 0)), (0, 0))
        self.assertEqual((counts(self.book, 0), lacks(self.book, 0)), (2, 0))

    def test_what_s_free_is_too_old_as_well(self):
        rerule(self.book, 0, 15, 1, 5, 100, 3)
        self.book.day = 6
        self.assertEqual((do(self.book, 0), can(self.book, 0)), (-8, 0))

    def test_order(self):
        grant(self.book, 1, 0, 0, 1, 1, 9)
        use(self.book, 0, 0)
        self.book.day = 6
        self.assertEqual(yes(self.book, 0, 0, 7, 5), -8, "ahead of -12")
        rerule(self.book, 0, 0, 1, 0, 0, 3)
        self.assertEqual(yes(self.book, 1, 0, 8, 5), -8, "ahead of -13 and -9")
        self.assertEqual(yes(self.book, 4, 0, 7, 5), -2)
        self.assertEqual(do(self.book, 0), -8, "ahead of -14, -13, -28")
        withdraw(self.book, 0)
        self.assertEqual(yes(self.book, 1, 0, 7, 5), -6, "-6 comes first")
        self.assertEqual(do(self.book, 0), -6)

    def test_said_already(self):
        yes(self.book, 1, 0, 7, 5)
        self.book.day = 6
        self.assertEqual(yes(self.book, 1, 0, 7, 5), -8)

    def test_told_otherwise_it_s_told_today(self):
        self.book.day = 6
        self.assertEqual(change(self.book, 0, 7, 5), 0)
        self.assertEqual(yes(self.book, 1, 0, 7, 5), 1)
        self.book.day = 9
        self.assertEqual(could(self.book, 0), 0)
        self.book.day = 10
        self.assertEqual(could(self.book, 0), -8)

    def test_the_rule_told_anew(self):
        self.book.day = 6
        rerule(self.book, 0, 15, 1, 0, 100, 4)
        self.assertEqual(yes(self.book, 1, 0, 7, 5), 1)
        rerule(self.book, 0, 15, 1, 0, 100, 3)
        self.assertEqual(do(self.book, 0), -8)

    def test_no_withdraw_and_use_don_t_mind(self):
        grant(self.book, 1, 0, 0, 5, 5, 9)
        ask(self.book, 0, 0, 7, 5)
        self.book.day = 6
        self.assertEqual(use(self.book, 0, 0), 1)
        self.assertEqual(no(self.book, 1, 0), 0)
        self.assertEqual(withdraw(self.book, 1), 0)


class PastItsDay(unittest.TestCase):
    def setUp(self):
        self.book = a_book(lives=30)
        grant(self.book, 1, 0, 0, 5, 50, 4)
        hand(self.book, 0, 2, 5, 50, 3)
        ask(self.book, 0, 0, 7, 5)
        ask(self.book, 2, 0, 7, 5)
        use(self.book, 0, 0)
        use(self.book, 1, 1)

    def test_up_to_its_day_this_one_too(self):
        for day, both in ((0, [0, 0]), (3, [0, 0]), (4, [0, -14]), (5, [-14, -14])):
            self.book.day = day
            self.assertEqual([could(self.book, r) for r in range(2)], both)
            self.assertEqual([counts(self.book, r) for r in range(2)], [2 if given == 0 else 0 for given in both])

    def test_an_amount_of_0_doesn_t_hold_either(self):
        change(self.book, 0, 7, 0)
        use(self.book, 0, 0)
        self.book.day = 4
        self.assertEqual(could(self.book, 0), 0)
        self.book.day = 5
        self.assertEqual(could(self.book, 0), -14)

    def test_there_is_room_as_long_as_it_s_living(self):
        self.assertEqual([room_of(self.book, g) for g in range(2)], [50, 50])
        do(self.book, 1)
        self.assertEqual([room_of(self.book, g) for g in range(2)], [45, 45])
        do(self.book, 0)
        self.assertEqual([room_of(self.book, g) for g in range(2)], [40, 40])
        self.book.day = 4
        self.assertEqual([room_of(self.book, g) for g in range(2)], [40, 0])
        revoke(self.book, 0)
        self.assertEqual([room_of(self.book, g) for g in range(2)], [0, 0])

    def test_hand_on(self):
        self.book.day = 4
        self.assertEqual(hand(self.book, 1, 3, 5, 50, 3), -14)
        self.assertEqual(hand(self.book, 0, 3, 5, 50, 5), -15)
        self.assertEqual(hand(self.book, 0, 3, 5, 50, 4), 2)
        self.assertEqual(hand(self.book, 0, 3, 5, 50, 2), 3, "a day that's past is not more than it has")
        self.assertEqual(hand(self.book, 3, 0, 5, 50, 2), -14)
        self.book.day = 5
        self.assertEqual(hand(self.book, 0, 3, 6, 50, 4), -14)

    def test_revoke_tells_the_living(self):
        self.book.day = 4
        self.assertEqual(revoke(self.book, 0), 1)
        self.book.day = 5
        self.assertEqual(revoke(self.book, 1), 0)

    def test_grant_up_to_a_day_that_s_past(self):
        self.book.day = 4
        self.assertEqual(grant(self.book, 1, 0, 0, 5, 5, 3), -22)
        self.assertEqual(grant(self.book, 1, 1, 0, 5, 5, 3), -22, "ahead of -12")
        self.assertEqual(grant(self.book, 1, 0, 0, 5, 5, 0), -22)
        self.assertEqual(grant(self.book, 1, 0, 0, 5, 5, 4), 2)


class OtherDays(unittest.TestCase):
    def test_each_day_has_its_own_limit(self):
        book = a_book(need=0, daily=10)
        for amount in (10, 1, 9, 2):
            ask(book, 0, 0, 7, amount)
        self.assertEqual([do(book, 0), do(book, 1)], [1, -28])
        book.day = 1
        self.assertEqual([do(book, 2), do(book, 3), do(book, 1)], [2, -28, 3])

    def test_a_standing_yes_s_total_is_over_all_days(self):
        book = a_book()
        grant(book, 1, 0, 0, 5, 9, 30)
        for number in range(3):
            ask(book, 0, 0, 7, 5 - number % 2)
            use(book, number, 0)
        self.assertEqual(do(book, 0), 1)
        book.day = 1
        self.assertEqual([do(book, 2), do(book, 1)], [-14, 2])


if __name__ == "__main__":
    unittest.main()
