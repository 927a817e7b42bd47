"""Point 4: do, could, ifyes, counts, lacks, maysay, can."""

import unittest

from tests.lines import BIG, Line, a_line


class NoSuchThing(unittest.TestCase):
    def test_each_call(self):
        empty = Line(4)
        line = a_line()
        line.ask(0, 0, 7, 5)
        for name in ("do", "could", "lacks", "counts", "maysay", "can"):
            self.assertEqual(getattr(empty, name)(0), -2, name)
            for r in (1, 12, BIG):
                self.assertEqual(getattr(line, name)(r), -2, name)


class Do(unittest.TestCase):
    def test_how_many_deeds(self):
        line = a_line()
        for number in range(3):
            line.ask(0, 0, 7, 5)
            line.yes(1, number, 7, 5)
        self.assertEqual([line.do(r) for r in (2, 0, 1)], [1, 2, 3])

    def test_never_twice(self):
        line = a_line(need=0)
        line.ask(0, 0, 7, 5)
        self.assertEqual(line.do(0), 1)
        self.assertEqual(line.do(0), -6)
        self.assertEqual(line.could(0), -6)

    def test_refused_and_withdrawn(self):
        line = a_line(need=0).all_of("ask", (0, 0, 7, 5), (0, 0, 7, 5))
        line.no(1, 0)
        line.withdraw(1)
        self.assertEqual([line.do(r) for r in (0, 1)], [-6, -6])

    def test_as_many_as_must(self):
        for need in range(4):
            line = a_line(need=need)
            line.ask(0, 0, 7, 5)
            for said in range(need):
                self.assertEqual(line.do(0), -13)
                line.yes(said + 1, 0, 7, 5)
            self.assertEqual(line.do(0), 1)

    def test_an_amount_that_s_just_free(self):
        line = a_line(need=2, free=5).all_of("ask", (0, 0, 7, 4), (0, 0, 7, 5), (0, 0, 7, 6), (0, 0, 7, 0))
        self.assertEqual([line.do(r) for r in range(4)], [1, 2, -13, 3])

    def test_nothing_is_free_but_nothing(self):
        line = a_line(need=2, free=0).all_of("ask", (0, 0, 7, 0), (0, 0, 7, 1))
        self.assertEqual([line.do(r) for r in range(2)], [1, -13])

    def test_as_much_as_a_day_allows(self):
        line = a_line(need=0, daily=12)
        line.rule(15, 0, 0, 5, 5)
        line.all_of("ask", (0, 0, 7, 13), (0, 0, 7, 5), (1, 0, 7, 8), (0, 0, 7, 7), (0, 0, 7, 1), (0, 0, 7, 0))
        self.assertEqual([line.do(r) for r in range(6)], [-28, 1, -28, 2, -28, 3])
        line.all_of("ask", (0, 1, 7, 6), (0, 1, 7, 5))
        self.assertEqual([line.do(r) for r in (6, 7)], [-28, 4], "the other kind has its own day")

    def test_the_largest_numbers(self):
        line = a_line(need=1, daily=1000000)
        line.grant(1, 0, 0, 1000000, 1000000, BIG)
        line.ask(0, 0, BIG, 1000000)
        line.use(0, 0)
        self.assertEqual(line.do(0), 1)

    def test_a_rule_told_anew_that_a_day_has_gone_past(self):
        line = a_line(need=0, daily=12)
        line.all_of("ask", (0, 0, 7, 9), (0, 0, 7, 0), (0, 0, 7, 1), (0, 0, 7, 3), (0, 0, 7, 1))
        line.do(0)
        line.rerule(0, 15, 0, 0, 8, 5)
        self.assertEqual([line.could(r) for r in range(1, 4)], [0, -28, -28])
        self.assertEqual(line.do(1), 2, "an amount of 0 is never more")
        line.rerule(0, 15, 0, 0, 9, 5)
        self.assertEqual(line.do(2), -28)
        line.rerule(0, 15, 0, 0, 12, 5)
        self.assertEqual([line.do(3), line.do(4)], [3, -28])

    def test_what_was_done_counts_whatever_comes_after(self):
        line = a_line(need=0, daily=12).all_of("ask", (0, 0, 7, 9), (1, 0, 7, 9))
        line.do(0)
        line.withdraw(0)
        line.change(0, 7, 0)
        self.assertEqual(line.do(1), -28)

    def test_a_standing_yes_that_doesn_t_hold(self):
        line = a_line(need=0)
        line.all_of("grant", (1, 0, 0, 4, 50, 9), (1, 0, 0, 50, 4, 9), (1, 0, 0, 50, 50, 9), (1, 0, 0, 5, 5, 0))
        for g in range(4):
            line.ask(0, 0, 7, 5)
            line.use(g, g)
        line.revoke(2)
        self.assertEqual([line.do(r) for r in range(4)], [-14, -14, -14, 1])

    def test_one_that_doesn_t_hold_beside_enough_yeses(self):
        line = a_line()
        line.all_of("grant", (1, 0, 0, 5, 5, 9), (2, 0, 0, 4, 4, 9))
        line.ask(0, 0, 7, 5)
        line.all_of("use", (0, 0), (0, 1))
        line.yes(3, 0, 7, 5)
        self.assertEqual(line.lacks(0), 0)
        self.assertEqual(line.do(0), -14)

    def test_order(self):
        line = a_line(need=3, daily=4)
        line.grant(1, 0, 0, 5, 5, 9)
        line.ask(0, 0, 7, 5)
        line.use(0, 0)
        self.assertEqual(line.do(0), -13, "ahead of -28")
        line.revoke(0)
        self.assertEqual(line.do(0), -14, "ahead of -13")
        line.rerule(0, 15, 0, 0, 4, 5)
        self.assertEqual(line.do(0), -14, "ahead of -28")
        line.no(2, 0)
        self.assertEqual(line.do(0), -6, "ahead of -14")
        self.assertEqual(line.do(1), -2)


class DrawnByStandingYeses(unittest.TestCase):
    def test_handed_on_it_draws_on_all_of_its_chain(self):
        line = a_line(people=5, may=31)
        line.grant(0, 1, 0, 9, 20, 9)
        line.all_of("hand", (0, 2, 9, 15, 9), (1, 3, 9, 12, 9), (0, 4, 9, 20, 9))
        for number, (person, g, amount) in enumerate(((3, 2, 9), (2, 1, 4), (3, 2, 3), (4, 3, 5), (1, 0, 2), (4, 3, 2))):
            line.ask(person, 0, 7, amount)
            line.use(number, g)
        self.assertEqual(line.do(0), 1)
        self.assertEqual(line.do(1), 2)
        self.assertEqual(line.do(2), -14, "3 are left in its own, 2 in the one it came from")
        self.assertEqual(line.do(3), 3)
        self.assertEqual(line.do(4), 4)
        self.assertEqual(line.do(5), -14, "20 in all are drawn by the first")

    def test_two_from_one_chain_whose_total_is_just_enough(self):
        line = a_line()
        line.grant(1, 0, 0, 5, 5, 9)
        line.hand(0, 2, 5, 5, 9)
        line.hand(1, 0, 5, 5, 9)
        line.ask(0, 0, 7, 5)
        line.all_of("use", (0, 0), (0, 2))
        self.assertEqual(line.counts(0), 2)
        self.assertEqual(line.do(0), 1, "a deed is drawn once, though two of the chain are used")
        line.ask(2, 0, 7, 1)
        line.use(1, 1)
        self.assertEqual(line.do(1), -14)

    def test_two_handed_on_from_one(self):
        line = a_line()
        line.grant(1, 2, 0, 5, 9, 9)
        line.all_of("hand", (0, 0, 5, 9, 9), (0, 0, 5, 9, 9))
        line.all_of("ask", (0, 0, 7, 5), (2, 0, 7, 5), (2, 0, 7, 4))
        line.all_of("use", (0, 1), (0, 2), (1, 0), (2, 0))
        self.assertEqual([line.do(r) for r in range(3)], [1, -14, 2])

    def test_what_is_done_by_others_draws_nothing_from_it(self):
        line = a_line()
        line.grant(1, 2, 0, 9, 30, 9)
        line.all_of("hand", (0, 0, 5, 9, 9), (0, 0, 5, 9, 9))
        line.grant(3, 0, 0, 5, 5, 9)
        line.all_of("ask", (0, 0, 7, 5), (2, 0, 7, 9), (0, 0, 7, 5), (0, 0, 7, 5), (0, 0, 7, 5), (0, 0, 7, 4))
        line.all_of("use", (0, 1), (1, 0), (3, 3), (4, 2), (5, 2))
        line.yes(2, 2, 7, 5)
        self.assertEqual([line.do(r) for r in range(6)], [1, 2, 3, 4, 5, 6])
        line.all_of("ask", (2, 0, 7, 3), (2, 0, 7, 2), (0, 0, 7, 3), (0, 0, 7, 1))
        line.all_of("use", (6, 0), (7, 0), (8, 1), (9, 3))
        self.assertEqual([line.do(r) for r in range(6, 10)], [7, 8, -14, -14])

    def test_one_asked_for_by_it_and_not_done_draws_nothing(self):
        line = a_line()
        line.grant(1, 0, 0, 5, 5, 9)
        line.all_of("ask", (0, 0, 7, 5), (0, 0, 7, 5), (0, 0, 7, 5))
        line.all_of("use", (0, 0), (1, 0), (2, 0))
        line.withdraw(0)
        line.no(1, 1)
        self.assertEqual(line.do(2), 1)

    def test_what_s_done_with_nobody_s_yes_draws_too(self):
        line = a_line(need=1, free=5)
        line.grant(1, 0, 0, 5, 5, 9)
        line.all_of("ask", (0, 0, 7, 5), (0, 0, 7, 5))
        line.all_of("use", (0, 0), (1, 0))
        self.assertEqual([line.do(r) for r in range(2)], [1, -14])

    def test_a_chain_of_ten(self):
        line = a_line(people=8, may=255)
        line.grant(0, 1, 0, 9, 20, 9)
        for g in range(9):
            line.hand(g, 2 - g % 2, 9, 19 - g, 9)
        line.all_of("ask", (2, 0, 7, 8), (2, 0, 7, 4), (2, 0, 7, 9), (1, 0, 7, 4))
        line.all_of("use", (0, 9), (1, 9), (2, 5), (3, 8))
        self.assertEqual([line.counts(r) for r in range(4)], [1, 1, 1, 1])
        self.assertEqual(line.do(0), 1)
        self.assertEqual(line.do(1), -14, "11 in all, 8 of it gone")
        self.assertEqual(line.do(2), -14, "15 in all further up, 8 of it gone")
        self.assertEqual(line.do(3), 2, "12 in all, 8 of it gone")
        line.revoke(6)
        self.assertEqual([line.could(r) for r in range(1, 3)], [-14, -14])
        line.change(2, 7, 3)
        line.use(2, 5)
        self.assertEqual(line.do(2), 3, "above what's taken back; 3 of 15 are left")
        self.assertEqual(line.revoke(0), 6)


class Counts(unittest.TestCase):
    def test_who_said_yes(self):
        line = a_line()
        line.ask(2, 0, 7, 5)
        self.assertEqual(line.counts(0), 0)
        line.yes(3, 0, 7, 5)
        self.assertEqual(line.counts(0), 8)
        line.yes(0, 0, 7, 5)
        self.assertEqual(line.counts(0), 9)

    def test_the_roots_of_those_that_hold(self):
        line = a_line(people=5, may=31)
        line.all_of("grant", (1, 2, 0, 5, 50, 9), (3, 0, 0, 4, 50, 9), (4, 0, 0, 5, 5, 9))
        line.hand(0, 0, 5, 50, 9)
        line.ask(0, 0, 7, 5)
        line.all_of("use", (0, 1), (0, 2), (0, 3))
        self.assertEqual(line.counts(0), 18, "1, from whom the handed one comes, and 4")
        line.revoke(0)
        self.assertEqual(line.counts(0), 16)

    def test_two_from_one_root(self):
        line = a_line(need=2)
        line.all_of("grant", (1, 0, 0, 5, 50, 9), (1, 0, 0, 5, 50, 9))
        line.ask(0, 0, 7, 5)
        line.all_of("use", (0, 0), (0, 1))
        self.assertEqual(line.counts(0), 2)
        self.assertEqual(line.do(0), -13)
        line.yes(1, 0, 7, 5)
        self.assertEqual(line.counts(0), 2, "a root that said yes, too")
        line.yes(2, 0, 7, 5)
        self.assertEqual(line.do(0), 1)

    def test_one_that_comes_back_to_its_root_who_asks(self):
        line = a_line()
        line.grant(0, 1, 0, 5, 50, 9)
        line.hand(0, 0, 5, 50, 9)
        line.ask(0, 0, 7, 5)
        self.assertEqual(line.use(0, 1), 1)
        self.assertEqual(line.counts(0), 0)
        self.assertEqual(line.lacks(0), 1)
        self.assertEqual(line.do(0), -13)
        line.yes(1, 0, 7, 5)
        self.assertEqual(line.do(0), 1, "it holds, though nobody counts by it")

    def test_whoever_asks_only_they_don_t_count(self):
        for asker in range(8):
            line = a_line(people=8, may=255)
            line.ask(asker, 0, 7, 5)
            other = (asker + 1) % 8
            line.grant(asker, other, 0, 5, 50, 9)
            line.hand(0, asker, 5, 50, 9)
            line.use(0, 1)
            for person in range(8):
                line.yes(person, 0, 7, 5)
            self.assertEqual(line.counts(0), 255 - (1 << asker))

    def test_one_who_said_yes_and_may_no_longer(self):
        line = a_line(need=2)
        line.ask(0, 0, 7, 5)
        line.all_of("yes", (1, 0, 7, 5), (2, 0, 7, 5))
        line.rerule(0, 13, 2, 0, 1000, 5)
        self.assertEqual(line.counts(0), 4)
        self.assertEqual(line.do(0), -13)
        line.rerule(0, 15, 2, 0, 1000, 5)
        self.assertEqual(line.counts(0), 6)

    def test_a_root_who_may_no_longer(self):
        line = a_line()
        line.grant(1, 0, 0, 5, 50, 9)
        line.ask(0, 0, 7, 5)
        line.use(0, 0)
        line.rerule(0, 13, 1, 0, 1000, 5)
        self.assertEqual(line.counts(0), 0)
        self.assertEqual(line.do(0), -13, "it holds still")

    def test_whatever_became_of_it(self):
        line = a_line()
        line.all_of("ask", (0, 0, 7, 5), (0, 0, 7, 5), (0, 0, 7, 5))
        line.all_of("yes", (1, 0, 7, 5), (1, 1, 7, 5), (2, 1, 7, 5), (3, 2, 7, 5))
        line.do(0)
        line.no(3, 1)
        line.withdraw(2)
        self.assertEqual([line.counts(r) for r in range(3)], [2, 6, 8])

    def test_done_by_all_that_was_left_it_holds_no_more(self):
        line = a_line()
        line.grant(1, 0, 0, 5, 9, 9)
        line.ask(0, 0, 7, 5)
        line.use(0, 0)
        self.assertEqual((line.counts(0), line.lacks(0)), (2, 0))
        line.do(0)
        self.assertEqual((line.counts(0), line.lacks(0)), (0, 1))


class Lacks(unittest.TestCase):
    def test_how_many_fewer(self):
        line = a_line(need=3, free=4).all_of("ask", (0, 0, 7, 5), (0, 0, 7, 4))
        self.assertEqual((line.lacks(0), line.lacks(1)), (3, 0))
        for person, lack in ((1, 2), (2, 1), (3, 0)):
            line.yes(person, 0, 7, 5)
            self.assertEqual(line.lacks(0), lack)

    def test_never_below_none(self):
        line = a_line(need=1)
        line.ask(0, 0, 7, 5)
        line.all_of("yes", (1, 0, 7, 5), (2, 0, 7, 5))
        self.assertEqual(line.lacks(0), 0)

    def test_those_of_standing_yeses_count(self):
        line = a_line(need=2)
        line.grant(1, 0, 0, 5, 50, 9)
        line.ask(0, 0, 7, 5)
        line.use(0, 0)
        self.assertEqual(line.lacks(0), 1)

    def test_nobody_need(self):
        line = a_line(need=0, may=0)
        line.ask(0, 0, 7, 5)
        self.assertEqual(line.lacks(0), 0)
        self.assertEqual(line.do(0), 1)


class MaySay(unittest.TestCase):
    def test_who_may_doesn_t_ask_and_hasn_t_said(self):
        line = a_line(people=5, may=15)
        line.all_of("ask", (1, 0, 7, 5), (4, 0, 7, 5))
        self.assertEqual((line.maysay(0), line.maysay(1)), (13, 15))
        line.yes(3, 0, 7, 5)
        self.assertEqual((line.maysay(0), line.maysay(1)), (5, 15))
        line.rerule(0, 26, 1, 0, 1000, 5)
        self.assertEqual((line.maysay(0), line.maysay(1)), (16, 10))

    def test_roots_may_say_it_too(self):
        line = a_line()
        line.grant(1, 0, 0, 5, 50, 9)
        line.ask(0, 0, 7, 5)
        line.use(0, 0)
        self.assertEqual(line.maysay(0), 14)

    def test_nobody_if_it_isn_t_open(self):
        line = a_line(need=0).all_of("ask", (0, 0, 7, 5), (0, 0, 7, 5), (0, 0, 7, 5))
        line.do(0)
        line.no(1, 1)
        line.withdraw(2)
        self.assertEqual([line.maysay(r) for r in range(3)], [0, 0, 0])

    def test_it_s_those_whose_yes_is_taken(self):
        for asker in range(5):
            line = a_line(people=5, may=11)
            line.ask(asker, 0, 7, 5)
            line.yes(3, 0, 7, 5)
            told = line.maysay(0)
            for person in range(5):
                other = Line()
                other.calls = list(line.calls)
                self.assertEqual(other.yes(person, 0, 7, 5) > 0, told >> person & 1 == 1)

    def test_a_kind_of_which_nobody_may_say_yes(self):
        line = a_line(may=0)
        line.ask(0, 0, 7, 5)
        self.assertEqual(line.maysay(0), 0)


class Can(unittest.TestCase):
    def test_enough_there_are(self):
        for need, due in ((0, [1, 1, 1, 1]), (1, [1, 1, 1, 1]), (2, [0, 0, 1, 1]), (3, [0, 0, 0, 0])):
            line = a_line(may=3, need=need).all_of("ask", *[(person, 0, 7, 5) for person in range(4)])
            self.assertEqual([line.can(r) for r in range(4)], due)

    def test_those_who_said_yes_already_count(self):
        line = a_line(people=5, may=14, need=3).all_of("ask", (0, 0, 7, 5), (1, 0, 7, 5))
        line.yes(1, 0, 7, 5)
        self.assertEqual((line.can(0), line.can(1)), (1, 0))
        line.rerule(0, 12, 3, 0, 1000, 5)
        self.assertEqual(line.can(0), 0, "may no longer")

    def test_a_root_who_may_no_longer(self):
        line = a_line(may=14, need=3)
        line.grant(1, 0, 0, 5, 50, 9)
        line.ask(0, 0, 7, 5)
        line.use(0, 0)
        self.assertEqual(line.can(0), 1)
        line.rerule(0, 12, 3, 0, 1000, 5)
        self.assertEqual(line.can(0), 0)

    def test_a_root_is_counted_once(self):
        line = a_line(may=3, need=2)
        line.grant(1, 0, 0, 5, 50, 9)
        line.ask(0, 0, 7, 5)
        line.use(0, 0)
        self.assertEqual(line.can(0), 0)

    def test_what_s_free_and_a_kind_of_which_nobody_may_say_yes(self):
        line = a_line(may=0, need=1, free=4).all_of("ask", (0, 0, 7, 4), (0, 0, 7, 5))
        self.assertEqual((line.can(0), line.can(1)), (1, 0))

    def test_it_speaks_of_yeses_alone(self):
        line = a_line(daily=4)
        line.grant(1, 0, 0, 1, 1, 9)
        line.ask(0, 0, 7, 5)
        line.use(0, 0)
        self.assertEqual(line.could(0), -14)
        self.assertEqual(line.can(0), 1)

    def test_it_isn_t_open(self):
        line = a_line(need=0).all_of("ask", (0, 0, 7, 5), (0, 0, 7, 5), (0, 0, 7, 5))
        line.do(0)
        line.no(1, 1)
        line.withdraw(2)
        self.assertEqual([line.can(r) for r in range(3)], [0, 0, 0])


class Could(unittest.TestCase):
    def test_it_does_nothing(self):
        line = a_line()
        line.ask(0, 0, 7, 5)
        line.yes(1, 0, 7, 5)
        self.assertEqual([line.could(0), line.could(0), line.do(0), line.could(0)], [0, 0, 1, -6])


class IfYes(unittest.TestCase):
    def test_had_those_said_yes_too(self):
        line = a_line(need=2)
        line.ask(0, 0, 7, 5)
        due = {people: 0 if people in (6, 7, 10, 11, 12, 13, 14, 15) else -13 for people in range(16)}
        self.assertEqual({people: line.ifyes(0, people) for people in range(16)}, due)
        line.yes(1, 0, 7, 5)
        due = {people: 0 if people & 12 else -13 for people in range(16)}
        self.assertEqual({people: line.ifyes(0, people) for people in range(16)}, due)

    def test_none_of_them_is_as_could(self):
        line = a_line()
        line.ask(0, 0, 7, 5)
        self.assertEqual((line.ifyes(0, 0), line.could(0)), (-13, -13))
        line.yes(1, 0, 7, 5)
        self.assertEqual((line.ifyes(0, 0), line.could(0)), (0, 0))
        line.do(0)
        self.assertEqual((line.ifyes(0, 0), line.could(0)), (-6, -6))

    def test_it_says_nothing_for_anybody(self):
        line = a_line()
        line.ask(0, 0, 7, 5)
        self.assertEqual(line.ifyes(0, 15), 0)
        self.assertEqual((line.counts(0), line.maysay(0), line.asked(0)[6], line.do(0)), (0, 14, 0, -13))
        self.assertEqual((line.done(), line.left(0)), (0, 1000))

    def test_those_who_may_not_and_who_asks_don_t_count(self):
        line = a_line(may=11)
        line.ask(0, 0, 7, 5)
        self.assertEqual([line.ifyes(0, people) for people in (1, 4, 5, 2, 8)], [-13, -13, -13, 0, 0])

    def test_one_who_said_yes_already_counts_once(self):
        line = a_line(need=2)
        line.ask(0, 0, 7, 5)
        line.yes(1, 0, 7, 5)
        self.assertEqual((line.ifyes(0, 2), line.ifyes(0, 6)), (-13, 0))

    def test_a_root_counts_once(self):
        line = a_line(need=2)
        line.grant(1, 0, 0, 5, 50, 9)
        line.ask(0, 0, 7, 5)
        line.use(0, 0)
        self.assertEqual((line.ifyes(0, 2), line.ifyes(0, 4)), (-13, 0))

    def test_no_set_of_these_people(self):
        for people in range(1, 9):
            line = Line(people)
            line.rule(2 ** people - 1, 1, 0, 1000, 5)
            line.ask(0, 0, 7, 5)
            self.assertEqual([line.ifyes(0, told) for told in (2 ** people, 2 ** people + 1, 256, BIG)], [-22] * 4)
            self.assertEqual(line.ifyes(0, 2 ** people - 1), -13 if people == 1 else 0)

    def test_no_such_thing(self):
        line = a_line()
        self.assertEqual(line.ifyes(0, 0), -2)
        line.ask(0, 0, 7, 5)
        self.assertEqual([line.ifyes(r, 15) for r in (1, 12, BIG)], [-2] * 3)
        self.assertEqual([line.ifyes(1, 16), line.ifyes(BIG, BIG)], [-2, -2], "ahead of -22")

    def test_order(self):
        line = a_line(need=3, daily=4)
        line.grant(1, 0, 0, 5, 5, 9)
        line.ask(0, 0, 7, 5)
        line.use(0, 0)
        self.assertEqual([line.ifyes(0, people) for people in (0, 4, 12, 16)], [-13, -13, -28, -22])
        line.revoke(0)
        self.assertEqual([line.ifyes(0, people) for people in (0, 15, 16)], [-14, -14, -22], "-14 whoever said yes")
        line.no(2, 0)
        self.assertEqual([line.ifyes(0, people) for people in (0, 15, 16)], [-6, -6, -22])

    def test_what_is_not_open(self):
        line = a_line(need=0).all_of("ask", (0, 0, 7, 5), (0, 0, 7, 5), (0, 0, 7, 5))
        line.do(0)
        line.no(1, 1)
        line.withdraw(2)
        self.assertEqual([line.ifyes(r, 15) for r in range(3)], [-6] * 3)

    def test_a_kind_of_which_nobody_may_say_yes(self):
        line = a_line(may=0, free=4).all_of("ask", (0, 0, 7, 5), (0, 0, 7, 4))
        self.assertEqual([line.ifyes(0, 15), line.ifyes(1, 15), line.ifyes(1, 0)], [-13, 0, 0])

    def test_all_who_may_say_yes_now_as_can_tells(self):
        for need in range(4):
            for may in (0, 2, 6, 7, 14, 15):
                line = a_line(may=may, need=need)
                line.ask(0, 0, 7, 5)
                line.yes(1, 0, 7, 5)
                self.assertEqual(line.ifyes(0, line.maysay(0)), 0 if line.can(0) == 1 else -13)


if __name__ == "__main__":
    unittest.main()
