"""Point 5 on what was done: done, log, left, sum."""

import unittest

from tests.lines import BIG, Line, a_line


def a_past():
    """Day 0: 5 and 3 of kind 0, 8 of kind 1. Day 2: 4 of kind 0. Day 5 (it is still): 6 of kind 1, 0 of kind 0."""
    line = a_line(need=0, daily=20)
    line.rule(15, 0, 0, 30, 5)
    for day, kind, amount in ((0, 0, 5), (0, 1, 8), (0, 0, 3), (2, 0, 4), (5, 1, 6), (5, 0, 0)):
        line.to_day(day)
        line.do(line.ask(1, kind, 7, amount))
    return line


class Done(unittest.TestCase):
    def test_how_many_deeds(self):
        line = a_line(need=0, daily=10)
        self.assertEqual(line.done(), 0)
        line.all_of("ask", (0, 0, 7, 5), (0, 0, 7, 5), (0, 0, 7, 1), (0, 0, 7, 0))
        self.assertEqual(line.done(), 0, "asked for is not done")
        line.do(1)
        self.assertEqual((line.done(), line.do(1), line.done()), (1, -6, 1))
        line.do(0)
        self.assertEqual((line.do(2), line.done()), (-28, 2))
        line.do(3)
        self.assertEqual(line.done(), 3, "an amount of 0 is a deed, too")

    def test_over_all_days_and_kinds(self):
        line = a_past()
        self.assertEqual(line.done(), 6)
        line.tick(30)
        self.assertEqual(line.done(), 6)

    def test_at_most_12_as_no_more_can_be_asked(self):
        line = a_line(need=0)
        for _ in range(12):
            line.do(line.ask(0, 0, 7, 1))
        self.assertEqual((line.done(), line.ask(0, 0, 7, 1)), (12, -28))


class Log(unittest.TestCase):
    """What was asked, its day, kind, who asked, number, amount, who counted, how many standing yeses, and they."""

    def test_each_deed_in_the_order_in_which_they_were_done(self):
        line = a_line(need=0)
        line.rule(15, 0, 0, 1000, 5)
        line.all_of("ask", (0, 0, 7, 5), (3, 1, BIG, 1000), (2, 0, 0, 0))
        line.do(1)
        line.tick(2)
        line.do(2)
        line.tick(1)
        line.do(0)
        self.assertEqual(line.log(0), [1, 0, 1, 3, BIG, 1000, 0, 0])
        self.assertEqual(line.log(1), [2, 2, 0, 2, 0, 0, 0, 0])
        self.assertEqual(line.log(2), [0, 3, 0, 0, 7, 5, 0, 0])

    def test_its_day_is_the_one_on_which_it_was_done(self):
        line = a_line()
        line.tick(2)
        line.ask(0, 0, 7, 5)
        line.tick(1)
        line.yes(1, 0, 7, 5)
        line.tick(2)
        line.do(0)
        line.tick(30)
        self.assertEqual((line.log(0)[1], line.asked(0)[4]), (5, 2))

    def test_who_counted(self):
        line = a_line(people=6, may=47, need=2)
        line.all_of("grant", (1, 0, 0, 5, 50, 9), (5, 3, 0, 5, 50, 9))
        line.hand(1, 0, 5, 50, 9)
        line.ask(0, 0, 7, 5)
        line.all_of("use", (0, 2), (0, 0))
        line.all_of("yes", (3, 0, 7, 5), (1, 0, 7, 5), (2, 0, 7, 5))
        line.rerule(0, 43, 2, 0, 1000, 5)
        line.do(0)
        self.assertEqual(line.log(0), [0, 0, 0, 0, 7, 5, 42, 2, 2, 0], "1, 3 and 5; 2 may no longer")

    def test_all_who_counted_even_if_fewer_must(self):
        for need, free in ((0, 0), (1, 0), (3, 5)):
            line = a_line(need=need, free=free)
            line.ask(0, 0, 7, 5)
            line.all_of("yes", (1, 0, 7, 5), (3, 0, 7, 5))
            line.do(0)
            self.assertEqual(line.log(0)[6], 10)

    def test_not_the_root_who_asks(self):
        line = a_line()
        line.grant(0, 1, 0, 5, 50, 9)
        line.hand(0, 0, 5, 50, 9)
        line.ask(0, 0, 7, 5)
        line.use(0, 1)
        line.yes(1, 0, 7, 5)
        line.do(0)
        self.assertEqual(line.log(0), [0, 0, 0, 0, 7, 5, 2, 1, 1])

    def test_by_all_that_was_left_of_a_standing_yes(self):
        line = a_line()
        line.grant(1, 0, 0, 5, 5, 9)
        line.ask(0, 0, 7, 5)
        line.use(0, 0)
        line.do(0)
        self.assertEqual((line.counts(0), line.log(0)), (0, [0, 0, 0, 0, 7, 5, 2, 1, 0]))

    def test_as_it_was_done_whatever_comes_after(self):
        line = a_line(people=5, may=31, need=2)
        line.all_of("grant", (1, 0, 0, 5, 50, 9), (2, 0, 0, 5, 50, 9))
        line.tick(1)
        line.ask(0, 0, 7, 5)
        line.all_of("use", (0, 1), (0, 0))
        line.yes(3, 0, 7, 5)
        line.tick(1)
        line.do(0)
        before = [0, 2, 0, 0, 7, 5, 14, 2, 1, 0]
        self.assertEqual(line.log(0), before)
        line.rerule(0, 16, 3, 0, 0, 1)
        self.assertEqual(line.log(0), before, "nobody of them may any more")
        line.all_of("revoke", (0,), (1,))
        self.assertEqual(line.log(0), before, "the standing yeses are taken back")
        line.to_day(20)
        self.assertEqual(line.log(0), before, "they're past their day, and it's another day")
        line.all_of("grant", (4, 0, 0, 5, 50, 30))
        refused = [line.change(0, 8, 6), line.yes(4, 0, 7, 5), line.use(0, 2), line.withdraw(0), line.no(4, 0)]
        self.assertEqual((refused, line.log(0)), ([-6] * 5, before))
        line.rule(31, 1, 0, 9, 5)
        line.ask(0, 0, 9, 0)
        line.do(1)
        self.assertEqual((line.log(0), line.log(1)), (before, [1, 20, 0, 0, 9, 0, 0, 0]))

    def test_told_otherwise_ahead_of_the_deed(self):
        line = a_line()
        line.grant(1, 0, 0, 5, 50, 9)
        line.ask(0, 0, 7, 5)
        line.use(0, 0)
        line.change(0, 8, 4)
        line.yes(2, 0, 8, 4)
        line.do(0)
        self.assertEqual(line.log(0), [0, 0, 0, 0, 8, 4, 4, 0])

    def test_three_standing_yeses(self):
        line = a_line(need=3).all_of("grant", (3, 0, 0, 5, 5, 9), (2, 0, 0, 5, 5, 9), (1, 0, 0, 5, 5, 9))
        line.ask(0, 0, 7, 5)
        line.all_of("use", (0, 1), (0, 2), (0, 0))
        line.do(0)
        self.assertEqual(line.log(0), [0, 0, 0, 0, 7, 5, 14, 3, 1, 2, 0])

    def test_no_such_deed(self):
        line = a_line(need=0)
        self.assertEqual(line.log(0), -2)
        line.all_of("ask", (0, 0, 7, 5), (0, 0, 7, 5))
        self.assertEqual(line.log(0), -2, "asked for is not done")
        line.do(1)
        self.assertEqual(line.each("log", 1, 12, BIG), [-2] * 3)
        self.assertEqual(line.log(0), [1, 0, 0, 0, 7, 5, 0, 0])


class Left(unittest.TestCase):
    def test_how_much_may_still_be_done_today_of_that_kind(self):
        line = a_line(need=0, daily=12)
        line.rule(15, 0, 0, 7, 5)
        self.assertEqual(line.each("left", 0, 1), [12, 7])
        for amount, due in ((5, [7, 7]), (0, [7, 7]), (6, [1, 7]), (1, [0, 7]), (0, [0, 7])):
            line.do(line.ask(0, 0, 7, amount))
            self.assertEqual(line.each("left", 0, 1), due)
        line.do(line.ask(0, 1, 7, 3))
        self.assertEqual(line.each("left", 0, 1), [0, 4])

    def test_only_what_s_done_today(self):
        line = a_past()
        self.assertEqual(line.each("left", 0, 1), [20, 24])
        line.tick(1)
        self.assertEqual(line.each("left", 0, 1), [20, 30])

    def test_what_is_asked_for_is_not_done(self):
        line = a_line(daily=12)
        line.ask(0, 0, 7, 5)
        self.assertEqual((line.do(0), line.left(0)), (-13, 12))
        line.yes(1, 0, 7, 5)
        line.could(0)
        self.assertEqual(line.left(0), 12)

    def test_free_or_by_standing_yeses_it_counts(self):
        line = a_line(daily=12, free=4)
        line.grant(1, 0, 0, 5, 50, 9)
        line.all_of("ask", (0, 0, 7, 4), (0, 0, 7, 5))
        line.use(1, 0)
        self.assertEqual([line.do(0), line.left(0), line.do(1), line.left(0)], [1, 8, 2, 3])

    def test_a_rule_told_anew(self):
        line = a_line(need=0, daily=12)
        line.do(line.ask(0, 0, 7, 9))
        for daily, due in ((10, 1), (9, 0), (8, 0), (0, 0), (1000000, 999991)):
            line.rerule(0, 15, 0, 0, daily, 5)
            self.assertEqual(line.left(0), due, daily)

    def test_none_a_day(self):
        line = a_line(need=0, daily=0).all_of("ask", (0, 0, 7, 1), (0, 0, 7, 0))
        self.assertEqual([line.left(0), line.do(0), line.do(1), line.left(0)], [0, -28, 1, 0])

    def test_it_s_what_do_goes_by(self):
        for amount, due in ((7, 2), (8, -28)):
            line = a_line(need=0, daily=12).all_of("ask", (0, 0, 7, 5), (0, 0, 7, amount))
            line.do(0)
            self.assertEqual((line.left(0), line.do(1)), (7, due))

    def test_no_such_kind(self):
        self.assertEqual(Line(4).left(0), -2)
        self.assertEqual(a_line().each("left", 1, 4, BIG), [-2] * 3)


class SumOf(unittest.TestCase):
    def test_from_day_to_day_both_too(self):
        line = a_past()
        days = (((0, 0), 8, 8), ((0, 1), 8, 8), ((0, 2), 12, 8), ((1, 2), 4, 0), ((1, 1), 0, 0), ((2, 2), 4, 0),
                ((2, 5), 4, 6), ((3, 4), 0, 0), ((3, 5), 0, 6), ((5, 5), 0, 6), ((0, 5), 12, 14), ((6, 9), 0, 0))
        for (first, last), *due in days:
            self.assertEqual([line.sum_of(kind, first, last) for kind in (0, 1)], due, (first, last))

    def test_the_last_day_ahead_of_the_first(self):
        line = a_past()
        self.assertEqual([line.sum_of(0, 2, 0), line.sum_of(0, 1, 0), line.sum_of(1, BIG, 0)], [0, 0, 0])

    def test_the_largest_numbers(self):
        line = a_past()
        self.assertEqual([line.sum_of(0, 0, BIG), line.sum_of(0, BIG, BIG), line.sum_of(0, 2, BIG)], [12, 0, 4])
        self.assertEqual(line.sum_of(1, 6, BIG), 0)

    def test_more_than_a_day_allows_together(self):
        line = a_line(need=0, daily=1000000)
        for _ in range(12):
            line.do(line.ask(0, 0, 7, 1000000))
            line.tick(1)
        self.assertEqual((line.sum_of(0, 0, 11), line.sum_of(0, 1, 10)), (12000000, 10000000))

    def test_what_is_asked_for_is_not_done(self):
        line = a_line()
        line.ask(0, 0, 7, 5)
        self.assertEqual(line.sum_of(0, 0, BIG), 0)

    def test_a_rule_told_anew_leaves_it(self):
        line = a_past()
        line.rerule(0, 0, 3, 0, 0, 1)
        self.assertEqual(line.sum_of(0, 0, 2), 12)

    def test_no_such_kind(self):
        self.assertEqual(Line(4).sum_of(0, 0, 0), -2)
        line = a_past()
        self.assertEqual([line.sum_of(kind, 0, 5) for kind in (2, 4, BIG)], [-2] * 3)
        self.assertEqual(line.sum_of(2, 5, 0), -2)
        self.assertEqual(line.sum_of(BIG, BIG, BIG), -2)


if __name__ == "__main__":
    unittest.main()
