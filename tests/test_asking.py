"""Point 2: ask, change, yes, no, withdraw, asked."""

import unittest

from tests.lines import BIG, Line, a_line


def ended_lines():
    """Lines whose thing asked 0 (by 0, x 7, amount 5) is done, refused, withdrawn."""
    done = a_line()
    done.ask(0, 0, 7, 5)
    done.yes(1, 0, 7, 5)
    done.do(0)
    refused = a_line()
    refused.ask(0, 0, 7, 5)
    refused.no(1, 0)
    withdrawn = a_line()
    withdrawn.ask(0, 0, 7, 5)
    withdrawn.withdraw(0)
    return (done, refused, withdrawn)


class Ask(unittest.TestCase):
    def test_numbered_from_0_and_at_most_12(self):
        line = a_line()
        for number in range(12):
            self.assertEqual(line.ask(number % 4, 0, 7, 5), number)
        self.assertEqual(line.ask(0, 0, 7, 5), -28)

    def test_12_in_all_whatever_became_of_them(self):
        line = a_line(need=0)
        for number in range(12):
            line.ask(0, 0, 7, 5)
            (line.do, line.withdraw)[number % 2](number)
        self.assertEqual(line.ask(0, 0, 7, 5), -28)

    def test_no_such_person_or_kind(self):
        line = a_line()
        for told in ((4, 0, 7, 5), (BIG, 0, 7, 5), (0, 1, 7, 5), (0, BIG, 7, 5), (4, 1, 7, BIG)):
            self.assertEqual(line.ask(*told), -2, told)
        self.assertEqual(Line(4).ask(0, 0, 7, 5), -2)

    def test_amounts_and_numbers(self):
        line = a_line()
        self.assertEqual(line.ask(0, 0, 7, 1000001), -22)
        self.assertEqual(line.ask(0, 0, 7, BIG), -22)
        self.assertEqual(line.ask(0, 0, BIG, 1000000), 0)
        self.assertEqual(line.ask(0, 0, 0, 0), 1)

    def test_order(self):
        line = a_line().all_of("ask", *[(0, 0, 7, 5)] * 12)
        self.assertEqual(line.ask(4, 0, 7, BIG), -2)
        self.assertEqual(line.ask(0, 0, 7, 1000001), -22)
        self.assertEqual(line.ask(0, 0, 7, 1000000), -28)

    def test_nobody_has_said_yes_and_it_uses_none(self):
        line = a_line(need=1)
        line.grant(1, 0, 0, 9, 9, 9)
        line.ask(0, 0, 7, 5)
        self.assertEqual(line.counts(0), 0)
        self.assertEqual(line.lacks(0), 1)
        self.assertEqual(line.maysay(0), 14)
        self.assertEqual(line.use(0, 0), 1)

    def test_who_asks_needn_t_be_one_who_may(self):
        line = a_line(may=6)
        self.assertEqual(line.ask(0, 0, 7, 5), 0)
        self.assertEqual(line.maysay(0), 6)


class Change(unittest.TestCase):
    def test_the_numbers_are_others(self):
        line = a_line()
        line.ask(0, 0, 7, 5)
        self.assertEqual(line.change(0, 8, 6), 0)
        self.assertEqual(line.yes(1, 0, 7, 5), -9)
        self.assertEqual(line.yes(1, 0, 7, 6), -9)
        self.assertEqual(line.yes(1, 0, 8, 5), -9)
        self.assertEqual(line.yes(1, 0, 8, 6), 1)

    def test_nobody_has_said_yes_any_more(self):
        for numbers in ((8, 5), (7, 6), (8, 6), (7, 5)):
            line = a_line(need=2)
            line.ask(0, 0, 7, 5)
            line.all_of("yes", (1, 0, 7, 5), (2, 0, 7, 5))
            self.assertEqual(line.could(0), 0)
            line.change(0, *numbers)
            self.assertEqual(line.counts(0), 0)
            self.assertEqual(line.could(0), -13)
            self.assertEqual(line.yes(1, 0, *numbers), 1)

    def test_it_uses_none_any_more(self):
        line = a_line()
        line.grant(1, 0, 0, 9, 9, 9)
        line.ask(0, 0, 7, 5)
        line.use(0, 0)
        self.assertEqual(line.counts(0), 2)
        line.change(0, 7, 6)
        self.assertEqual(line.counts(0), 0)
        self.assertEqual(line.use(0, 0), 1)

    def test_who_asks_and_the_kind_stay(self):
        line = a_line()
        line.rule(12, 1, 0, 9, 5)
        line.ask(2, 1, 7, 5)
        line.change(0, 8, 6)
        self.assertEqual(line.maysay(0), 8)

    def test_no_such_thing(self):
        line = a_line()
        self.assertEqual(line.change(0, 7, 5), -2)
        line.ask(0, 0, 7, 5)
        self.assertEqual(line.change(1, 7, 5), -2)
        self.assertEqual(line.change(BIG, BIG, BIG), -2)

    def test_amounts_and_numbers(self):
        line = a_line()
        line.ask(0, 0, 7, 5)
        self.assertEqual(line.change(0, 7, 1000001), -22)
        self.assertEqual(line.change(0, 7, BIG), -22)
        self.assertEqual(line.yes(1, 0, 7, 5), 1, "refused, it stays")
        self.assertEqual(line.change(0, BIG, 1000000), 0)
        self.assertEqual(line.yes(1, 0, BIG, 1000000), 1)

    def test_it_isn_t_open(self):
        for line in ended_lines():
            self.assertEqual(line.change(0, 8, 6), -6)
            self.assertEqual(line.change(0, 8, 1000001), -22, "-22 is named ahead of -6")


class Yes(unittest.TestCase):
    def test_how_many_said_yes(self):
        line = a_line()
        line.ask(0, 0, 7, 5)
        self.assertEqual(line.yes(3, 0, 7, 5), 1)
        self.assertEqual(line.yes(1, 0, 7, 5), 2)
        self.assertEqual(line.yes(2, 0, 7, 5), 3)

    def test_eight_people(self):
        line = a_line(people=8, may=255)
        line.ask(0, 0, 7, 5)
        for person in range(1, 8):
            self.assertEqual(line.yes(person, 0, 7, 5), person)
        self.assertEqual(line.counts(0), 254)

    def test_no_such_person_or_thing(self):
        line = a_line()
        self.assertEqual(line.yes(1, 0, 7, 5), -2)
        line.ask(0, 0, 7, 5)
        for told in ((4, 0, 7, 5), (BIG, 0, 7, 5), (1, 1, 7, 5), (1, BIG, 7, 5), (BIG, BIG, BIG, BIG)):
            self.assertEqual(line.yes(*told), -2, told)

    def test_it_isn_t_open(self):
        for line in ended_lines():
            self.assertEqual(line.yes(2, 0, 7, 5), -6)
            self.assertEqual(line.yes(0, 0, 9, 9), -6)
            self.assertEqual(line.yes(4, 0, 7, 5), -2)

    def test_who_asks(self):
        line = a_line(may=6)
        line.all_of("ask", (0, 0, 7, 5), (1, 0, 7, 5))
        self.assertEqual(line.yes(1, 1, 7, 5), -12)
        self.assertEqual(line.yes(1, 1, 9, 9), -12, "ahead of -9")
        self.assertEqual(line.yes(0, 0, 7, 5), -12, "ahead of -13")

    def test_who_may_not(self):
        line = a_line(may=6)
        line.ask(0, 0, 7, 5)
        self.assertEqual(line.yes(3, 0, 7, 5), -13)
        self.assertEqual(line.yes(3, 0, 9, 9), -13, "ahead of -9")

    def test_other_numbers(self):
        line = a_line()
        line.ask(0, 0, 7, 5)
        for numbers in ((8, 5), (7, 4), (7, 6), (5, 7), (0, 0), (BIG, 5), (7, BIG), (BIG, BIG)):
            self.assertEqual(line.yes(1, 0, *numbers), -9)
        self.assertEqual(line.counts(0), 0)

    def test_a_yes_to_the_numbers_as_they_were(self):
        line = a_line()
        line.ask(0, 0, 7, 5)
        line.change(0, 7, 6)
        self.assertEqual(line.yes(1, 0, 7, 5), -9)
        line.change(0, 7, 5)
        self.assertEqual(line.yes(1, 0, 7, 5), 1)

    def test_said_already(self):
        line = a_line()
        line.ask(0, 0, 7, 5)
        line.yes(1, 0, 7, 5)
        self.assertEqual(line.yes(1, 0, 7, 5), -17)
        self.assertEqual(line.yes(1, 0, 7, 6), -9, "-9 is named ahead of -17")
        self.assertEqual(line.yes(2, 0, 7, 5), 2)

    def test_one_who_said_yes_and_may_no_longer(self):
        line = a_line()
        line.ask(0, 0, 7, 5)
        line.yes(1, 0, 7, 5)
        line.rerule(0, 13, 1, 0, 1000, 5)
        self.assertEqual(line.yes(1, 0, 7, 5), -13, "ahead of -17")
        self.assertEqual(line.counts(0), 0)
        self.assertEqual(line.yes(2, 0, 7, 5), 2, "who said yes, said so")
        self.assertEqual(line.counts(0), 4)

    def test_a_kind_of_which_nobody_may_say_yes(self):
        line = a_line(may=0)
        line.ask(0, 0, 7, 5)
        self.assertEqual([line.yes(person, 0, 7, 5) for person in range(4)], [-12, -13, -13, -13])


class No(unittest.TestCase):
    def test_it_s_refused(self):
        line = a_line(need=0)
        line.ask(0, 0, 7, 5)
        self.assertEqual(line.no(1, 0), 0)
        self.assertEqual(line.could(0), -6)
        self.assertEqual(line.no(1, 0), -6)

    def test_no_such_person_or_thing(self):
        line = a_line()
        self.assertEqual(line.no(1, 0), -2)
        line.ask(0, 0, 7, 5)
        for told in ((4, 0), (BIG, 0), (1, 1), (1, BIG), (BIG, BIG)):
            self.assertEqual(line.no(*told), -2)

    def test_who_may_not(self):
        line = a_line(may=2)
        line.ask(0, 0, 7, 5)
        self.assertEqual(line.no(0, 0), -13)
        self.assertEqual(line.no(3, 0), -13)
        self.assertEqual(line.maysay(0), 2, "it is open")
        self.assertEqual(line.no(1, 0), 0)

    def test_who_asks_may_if_they_may_say_yes_to_the_kind(self):
        line = a_line(may=1)
        line.ask(0, 0, 7, 5)
        self.assertEqual(line.no(0, 0), 0)

    def test_after_a_yes(self):
        line = a_line()
        line.ask(0, 0, 7, 5)
        line.yes(1, 0, 7, 5)
        self.assertEqual(line.no(1, 0), 0)
        self.assertEqual(line.do(0), -6)

    def test_it_isn_t_open(self):
        for line in ended_lines():
            self.assertEqual(line.no(1, 0), -6)
            self.assertEqual(line.no(4, 0), -2)
            line.rerule(0, 0, 0, 0, 0, 1)
            self.assertEqual(line.no(1, 0), -6, "ahead of -13")


class Withdraw(unittest.TestCase):
    def test_it_s_withdrawn(self):
        line = a_line(need=0)
        line.ask(0, 0, 7, 5)
        self.assertEqual(line.withdraw(0), 0)
        self.assertEqual(line.do(0), -6)
        self.assertEqual(line.withdraw(0), -6)

    def test_no_such_thing(self):
        line = a_line()
        self.assertEqual(line.withdraw(0), -2)
        line.ask(0, 0, 7, 5)
        self.assertEqual(line.withdraw(1), -2)
        self.assertEqual(line.withdraw(BIG), -2)

    def test_it_isn_t_open(self):
        for line in ended_lines():
            self.assertEqual(line.withdraw(0), -6)

    def test_the_others_stay(self):
        line = a_line(need=0)
        line.all_of("ask", (0, 0, 7, 5), (0, 0, 8, 5))
        line.withdraw(0)
        self.assertEqual(line.do(1), 1)


class AskedIs(unittest.TestCase):
    """kind, who asks, number, amount, day, stage, who said yes, how many standing yeses, and they."""

    def test_just_asked_for(self):
        line = a_line()
        line.rule(15, 1, 0, 9, 5)
        line.tick(4)
        line.all_of("ask", (2, 1, BIG, 1000000), (0, 0, 0, 0))
        self.assertEqual(line.each("asked", 0, 1), [[1, 2, BIG, 1000000, 4, 0, 0, 0], [0, 0, 0, 0, 4, 0, 0, 0]])

    def test_who_said_yes_is_a_set(self):
        line = a_line(people=8, may=255)
        line.ask(2, 0, 7, 5)
        for person, said in ((7, 128), (0, 129), (3, 137)):
            line.yes(person, 0, 7, 5)
            self.assertEqual(line.asked(0), [0, 2, 7, 5, 0, 0, said, 0])

    def test_who_said_yes_whether_they_may_still_or_not(self):
        line = a_line()
        line.ask(0, 0, 7, 5)
        line.all_of("yes", (1, 0, 7, 5), (2, 0, 7, 5))
        line.rerule(0, 0, 1, 0, 1000, 5)
        self.assertEqual((line.asked(0)[6], line.counts(0)), (6, 0))
        line.tick(30)
        self.assertEqual(line.asked(0), [0, 0, 7, 5, 0, 0, 6, 0])

    def test_the_standing_yeses_that_it_uses_whether_they_hold_or_not(self):
        line = a_line()
        line.all_of("grant", (1, 0, 0, 4, 50, 9), (2, 0, 0, 5, 50, 9), (3, 0, 0, 5, 50, 9))
        line.ask(0, 0, 7, 5)
        for g, uses in ((0, [1, 0]), (1, [2, 0, 1]), (2, [3, 0, 1, 2])):
            line.use(0, g)
            self.assertEqual(line.asked(0), [0, 0, 7, 5, 0, 0, 0] + uses)
        line.revoke(2)
        self.assertEqual(line.asked(0), [0, 0, 7, 5, 0, 0, 0, 3, 0, 1, 2], "and no root is one who said yes")

    def test_in_the_order_in_which_it_took_to_them(self):
        line = a_line().all_of("grant", *[(1, 0, 0, 5, 50, 9)] * 4)
        line.ask(0, 0, 7, 5)
        line.all_of("use", (0, 3), (0, 0), (0, 2))
        self.assertEqual(line.asked(0)[7:], [3, 3, 0, 2])

    def test_what_became_of_it(self):
        line = a_line().all_of("ask", *[(0, 0, 7, 5)] * 4)
        line.all_of("yes", (1, 1, 7, 5), (2, 2, 7, 5))
        line.do(1)
        line.no(3, 2)
        line.withdraw(3)
        self.assertEqual([line.asked(r)[5] for r in range(4)], [0, 1, 2, 3])
        self.assertEqual([line.asked(r)[6] for r in range(4)], [0, 2, 4, 0], "who said yes, said so")

    def test_told_otherwise(self):
        line = a_line()
        line.grant(1, 0, 0, 5, 50, 9)
        line.ask(0, 0, 7, 5)
        line.use(0, 0)
        line.yes(1, 0, 7, 5)
        line.tick(3)
        line.change(0, 8, 6)
        self.assertEqual(line.asked(0), [0, 0, 8, 6, 3, 0, 0, 0])

    def test_told_the_same_it_s_told_anew(self):
        line = a_line()
        line.ask(0, 0, 7, 5)
        line.yes(1, 0, 7, 5)
        line.tick(3)
        line.change(0, 7, 5)
        self.assertEqual(line.asked(0), [0, 0, 7, 5, 3, 0, 0, 0])

    def test_what_is_refused_leaves_it(self):
        line = a_line(may=7)
        line.ask(0, 0, 7, 5)
        line.yes(1, 0, 7, 5)
        before = line.asked(0)
        line.tick(1)
        refused = [line.change(0, 7, BIG), line.yes(1, 0, 7, 5), line.yes(2, 0, 7, 6), line.yes(3, 0, 7, 5), line.no(3, 0)]
        self.assertEqual(refused, [-22, -17, -9, -13, -13])
        self.assertEqual(line.asked(0), before)

    def test_when_it_isn_t_open_nothing_changes_it(self):
        for line in ended_lines():
            before = line.asked(0)
            line.grant(1, 0, 0, 5, 50, 9)
            refused = [line.change(0, 8, 6), line.yes(2, 0, 7, 5), line.no(2, 0), line.withdraw(0), line.use(0, 0)]
            self.assertEqual(refused + [line.do(0)], [-6] * 6)
            self.assertEqual(line.asked(0), before)

    def test_no_such_thing(self):
        line = a_line()
        self.assertEqual(line.asked(0), -2)
        line.ask(0, 0, 7, 5)
        self.assertEqual(line.each("asked", 1, 12, BIG), [-2] * 3)


if __name__ == "__main__":
    unittest.main()
