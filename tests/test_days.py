"""Days: tick and today of point 1, and what days do to points 2 to 4: too old, past its day, another day's limit."""

import unittest

from tests.lines import BIG, Line, a_line

# 60 calls hold at most 59 ticks behind a begin.
LAST_DAY_OF_A_LINE = 59 * 30


class TickAndToday(unittest.TestCase):
    def test_it_begins_on_day_0(self):
        self.assertEqual(Line(3).today(), 0)

    def test_that_many_days_later(self):
        line = Line(3)
        self.assertEqual([line.tick(1), line.today()], [1, 1])
        self.assertEqual([line.tick(30), line.today()], [31, 31])
        self.assertEqual([line.tick(7), line.tick(1), line.today(), line.today()], [38, 39, 39, 39])

    def test_each_number_of_days(self):
        for days in range(1, 31):
            self.assertEqual(Line(1).tick(days), days)

    def test_no_other_number_of_days(self):
        line = Line(3)
        line.tick(5)
        for days in (0, 31, 32, 256, 1000000, BIG):
            self.assertEqual(line.tick(days), -22, days)
            self.assertEqual(line.today(), 5, "refused, no day passes")

    def test_as_many_days_as_a_line_can_tell(self):
        line = Line(3).all_of("tick", *[(30,)] * 58)
        self.assertEqual(line.tick(30), LAST_DAY_OF_A_LINE)

    def test_before_a_begin(self):
        line = Line()
        self.assertEqual([line.tick(1), line.tick(0), line.tick(31), line.tick(BIG), line.today()], [-11] * 5)
        self.assertEqual([line.begin(9), line.tick(1), line.today()], [-22, -11, -11])

    def test_a_begin_again_is_on_day_0(self):
        line = Line(3)
        line.tick(9)
        self.assertEqual([line.begin(0), line.today()], [-22, 9])
        self.assertEqual([line.begin(3), line.today(), line.tick(2)], [0, 0, 2])


class TooOld(unittest.TestCase):
    def setUp(self):
        self.line = a_line(lives=3, daily=100)
        self.line.tick(2)
        self.line.ask(0, 0, 7, 5)

    def test_on_the_last_day_it_isn_t(self):
        line = self.line.to_day(5)
        self.assertEqual((line.maysay(0), line.can(0)), (14, 1))
        self.assertEqual(line.yes(1, 0, 7, 5), 1)
        self.assertEqual((line.maysay(0), line.can(0), line.ifyes(0, 0)), (12, 1, 0))
        self.assertEqual((line.could(0), line.do(0)), (0, 1))

    def test_behind_it_it_is(self):
        line = self.line
        line.yes(1, 0, 7, 5)
        line.to_day(6)
        self.assertEqual(line.yes(2, 0, 7, 5), -8)
        self.assertEqual((line.could(0), line.do(0), line.ifyes(0, 14)), (-8, -8, -8))
        self.assertEqual((line.maysay(0), line.can(0)), (0, 0))
        self.assertEqual((line.counts(0), line.lacks(0)), (2, 0))
        self.assertEqual(line.asked(0)[5], 0, "it is open still")

    def test_long_behind_it(self):
        line = self.line.to_day(LAST_DAY_OF_A_LINE)
        self.assertEqual([line.yes(1, 0, 7, 5), line.could(0), line.do(0), line.can(0)], [-8, -8, -8, 0])

    def test_each_life(self):
        for lives in (1, 2, 29, 30):
            line = a_line(lives=lives, need=0)
            line.ask(0, 0, 7, 5)
            line.to_day(lives)
            self.assertEqual((line.could(0), line.can(0)), (0, 1))
            line.tick(1)
            self.assertEqual((line.could(0), line.can(0)), (-8, 0))

    def test_what_s_free_and_what_nobody_need_are_too_old_as_well(self):
        line = self.line.to_day(6)
        line.rerule(0, 15, 1, 5, 100, 3)
        self.assertEqual((line.do(0), line.can(0), line.lacks(0)), (-8, 0, 0))
        line.rerule(0, 15, 0, 0, 100, 3)
        self.assertEqual((line.do(0), line.can(0), line.lacks(0)), (-8, 0, 0))

    def test_order(self):
        line = self.line
        line.grant(1, 0, 0, 1, 1, 9)
        line.use(0, 0)
        line.to_day(6)
        self.assertEqual(line.yes(0, 0, 7, 5), -8, "ahead of -12")
        line.rerule(0, 0, 1, 0, 0, 3)
        self.assertEqual(line.yes(1, 0, 8, 5), -8, "ahead of -13 and -9")
        self.assertEqual(line.yes(4, 0, 7, 5), -2)
        self.assertEqual([line.do(0), line.could(0), line.ifyes(0, 15)], [-8] * 3, "ahead of -14, -13, -28")
        self.assertEqual(line.ifyes(0, 16), -22, "ahead of -8")
        line.withdraw(0)
        self.assertEqual(line.yes(1, 0, 7, 5), -6, "-6 comes first")
        self.assertEqual([line.do(0), line.could(0), line.ifyes(0, 15)], [-6] * 3)

    def test_said_already(self):
        line = self.line
        line.yes(1, 0, 7, 5)
        line.to_day(6)
        self.assertEqual(line.yes(1, 0, 7, 5), -8, "ahead of -17")

    def test_told_otherwise_it_s_told_today(self):
        line = self.line.to_day(6)
        self.assertEqual(line.change(0, 7, 5), 0)
        self.assertEqual(line.asked(0)[4], 6)
        self.assertEqual(line.yes(1, 0, 7, 5), 1)
        line.to_day(9)
        self.assertEqual((line.could(0), line.can(0)), (0, 1))
        line.tick(1)
        self.assertEqual((line.could(0), line.can(0)), (-8, 0))

    def test_the_rule_told_anew(self):
        line = self.line.to_day(6)
        line.rerule(0, 15, 1, 0, 100, 4)
        self.assertEqual((line.maysay(0), line.can(0)), (14, 1))
        self.assertEqual(line.yes(1, 0, 7, 5), 1)
        line.rerule(0, 15, 1, 0, 100, 3)
        self.assertEqual((line.do(0), line.can(0)), (-8, 0))

    def test_the_life_is_that_of_its_kind(self):
        line = a_line(lives=1, need=0)
        line.rule(15, 0, 0, 100, 2)
        line.all_of("ask", (0, 0, 7, 5), (0, 1, 7, 5))
        line.tick(2)
        self.assertEqual([line.do(0), line.do(1)], [-8, 1])

    def test_no_withdraw_change_and_use_don_t_mind(self):
        line = self.line
        line.grant(1, 0, 0, 5, 5, 9)
        line.all_of("ask", (0, 0, 7, 5), (0, 0, 7, 5))
        line.to_day(6)
        self.assertEqual(line.use(0, 0), 1)
        self.assertEqual([line.no(1, 0), line.withdraw(1), line.change(2, 8, 6)], [0, 0, 0])


class PastItsDay(unittest.TestCase):
    """1's standing yes 0 to 0 is up to day 4; handed on to 2 it is up to day 3."""

    def setUp(self):
        line = a_line(lives=30, daily=100)
        line.grant(1, 0, 0, 5, 50, 4)
        line.hand(0, 2, 5, 50, 3)
        line.all_of("ask", (0, 0, 7, 5), (2, 0, 7, 5))
        line.all_of("use", (0, 0), (1, 1))
        self.line = line

    def test_up_to_its_day_this_one_too(self):
        line = self.line
        for day, both in ((0, [0, 0]), (3, [0, 0]), (4, [0, -14]), (5, [-14, -14]), (300, [-14, -14])):
            line.to_day(day)
            line.all_of("change", (0, 7, 5), (1, 7, 5))
            line.all_of("use", (0, 0), (1, 1))
            self.assertEqual(line.each("could", 0, 1), both)
            self.assertEqual(line.each("counts", 0, 1), [2 if given == 0 else 0 for given in both])
            self.assertEqual(line.each("lives", 0, 1), [1 if given == 0 else 0 for given in both])

    def test_done_on_its_last_day(self):
        line = self.line.to_day(3)
        self.assertEqual(line.do(1), 1)
        line.tick(1)
        self.assertEqual(line.do(0), 2)
        self.assertEqual(line.each("drawn", 0, 1), [10, 5])

    def test_not_the_day_after(self):
        line = self.line.to_day(4)
        self.assertEqual(line.do(1), -14)
        line.tick(1)
        self.assertEqual((line.do(0), line.ifyes(0, 14), line.could(0)), (-14, -14, -14))
        self.assertEqual(line.can(0), 1, "enough could say yes")

    def test_an_amount_of_0_doesn_t_hold_either(self):
        line = self.line
        line.change(0, 7, 0)
        line.use(0, 0)
        line.to_day(4)
        self.assertEqual((line.could(0), line.counts(0)), (0, 2))
        line.tick(1)
        self.assertEqual((line.could(0), line.counts(0)), (-14, 0))

    def test_there_is_room_as_long_as_it_s_living(self):
        line = self.line
        self.assertEqual(line.each("room", 0, 1), [50, 50])
        line.do(1)
        self.assertEqual(line.each("room", 0, 1), [45, 45])
        line.do(0)
        self.assertEqual(line.each("room", 0, 1), [40, 40])
        line.to_day(4)
        self.assertEqual(line.each("room", 0, 1), [40, 0])
        line.tick(1)
        self.assertEqual(line.each("room", 0, 1), [0, 0])

    def test_most_by_it(self):
        line = self.line
        for day, due in ((3, [5, 5]), (4, [5, 0]), (5, [0, 0])):
            line.to_day(day)
            self.assertEqual([line.most(0, 0), line.most(2, 0)], due)

    def test_hand_on(self):
        line = self.line.to_day(4)
        self.assertEqual(line.hand(1, 3, 5, 50, 3), -14)
        self.assertEqual(line.hand(0, 3, 5, 50, 5), -15)
        self.assertEqual(line.hand(0, 3, 5, 50, 4), 2, "on its last day")
        self.assertEqual(line.hand(0, 3, 5, 50, 2), 3, "a day that's past is not more than it has")
        self.assertEqual(line.each("lives", 2, 3), [1, 0])
        self.assertEqual(line.hand(3, 0, 5, 50, 2), -14)
        line.tick(1)
        self.assertEqual(line.hand(0, 3, 6, 50, 4), -14)

    def test_revoke_tells_the_living(self):
        line = self.line.to_day(4)
        self.assertEqual(line.revoke(0), 1)
        line.tick(1)
        self.assertEqual(line.revoke(1), 0)

    def test_revoke_of_what_s_past_its_day(self):
        line = self.line.to_day(5)
        self.assertEqual([line.revoke(1), line.revoke(0), line.revoke(0)], [0, 0, -17])

    def test_grant_up_to_a_day_that_s_past(self):
        line = self.line.to_day(4)
        self.assertEqual(line.grant(1, 0, 0, 5, 5, 3), -22)
        self.assertEqual(line.grant(1, 1, 0, 5, 5, 3), -22, "ahead of -12")
        self.assertEqual(line.grant(1, 0, 0, 5, 5, 0), -22)
        self.assertEqual(line.grant(1, 0, 9, 5, 5, 0), -2, "-2 comes first")
        self.assertEqual(line.grant(1, 0, 0, 5, 5, 4), 2, "up to this day")
        self.assertEqual((line.lives(2), line.tick(1), line.lives(2)), (1, 5, 0))

    def test_used_all_the_same(self):
        line = self.line.to_day(5)
        line.ask(0, 0, 7, 5)
        self.assertEqual((line.use(2, 0), line.could(2)), (1, -14))

    def test_one_without_an_end(self):
        line = a_line(lives=30)
        line.grant(1, 0, 0, 5, 50, BIG)
        line.to_day(LAST_DAY_OF_A_LINE)
        line.ask(0, 0, 7, 5)
        line.use(0, 0)
        self.assertEqual((line.lives(0), line.room(0), line.most(0, 0), line.do(0)), (1, 50, 5, 1))


class OtherDays(unittest.TestCase):
    def test_a_day_s_limit_is_free_again_the_next_day(self):
        line = a_line(need=0, daily=10).all_of("ask", *[(0, 0, 7, amount) for amount in (10, 1, 9, 2)])
        self.assertEqual([line.do(0), line.left(0), line.do(1), line.most(0, 0)], [1, 0, -28, 0])
        line.tick(1)
        self.assertEqual([line.left(0), line.most(0, 0)], [10, 10])
        self.assertEqual([line.do(2), line.left(0), line.do(3), line.do(1), line.left(0)], [2, 1, -28, 3, 0])

    def test_what_s_left_isn_t_left_for_the_next_day(self):
        line = a_line(need=0, daily=10)
        line.tick(5)
        line.ask(0, 0, 7, 11)
        self.assertEqual([line.left(0), line.do(0)], [10, -28])

    def test_a_rule_told_anew_that_a_day_has_gone_past(self):
        line = a_line(need=0, daily=10).all_of("ask", (0, 0, 7, 9), (0, 0, 7, 3), (0, 0, 7, 0))
        line.do(0)
        line.rerule(0, 15, 0, 0, 8, 5)
        self.assertEqual([line.left(0), line.most(1, 0), line.do(1), line.do(2)], [0, 0, -28, 2])
        line.tick(1)
        self.assertEqual([line.left(0), line.most(1, 0), line.do(1), line.left(0)], [8, 8, 3, 5])

    def test_a_standing_yes_s_total_is_over_all_days(self):
        line = a_line(daily=100)
        line.grant(1, 0, 0, 5, 9, 30)
        for number in range(3):
            line.ask(0, 0, 7, 5 - number % 2)
            line.use(number, 0)
        self.assertEqual([line.do(0), line.room(0)], [1, 4])
        line.tick(1)
        self.assertEqual([line.room(0), line.do(2), line.do(1), line.room(0)], [4, -14, 2, 0])


if __name__ == "__main__":
    unittest.main()
