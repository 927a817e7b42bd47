"""Point 3: grant, hand, revoke, use."""

import unittest

from tests.lines import BIG, Line, a_line


def draw(line, person, number, amount, *used):
    """Asks by that number, which is the next, with these standing yeses; answers what do answers."""
    line.ask(person, 0, 7, amount)
    for g in used:
        line.use(number, g)
    return line.do(number)


class Grant(unittest.TestCase):
    def test_numbered_from_0_and_at_most_10(self):
        line = a_line()
        for number in range(10):
            self.assertEqual(line.grant(1, 0, 0, 5, 50, 9), number)
        self.assertEqual(line.grant(1, 0, 0, 5, 50, 9), -28)
        line.revoke(0)
        self.assertEqual(line.grant(1, 0, 0, 5, 50, 9), -28, "taken back, it is there still")

    def test_no_such_person_or_kind(self):
        line = a_line()
        wrong = ((4, 0, 0, 5, 5, 9), (BIG, 0, 0, 5, 5, 9), (1, 4, 0, 5, 5, 9), (1, BIG, 0, 5, 5, 9),
                 (1, 0, 1, 5, 5, 9), (1, 0, BIG, 5, 5, 9), (BIG, BIG, BIG, BIG, BIG, BIG))
        for told in wrong:
            self.assertEqual(line.grant(*told), -2, told)

    def test_amounts_and_days(self):
        line = a_line()
        for told in ((1000001, 5, 9), (5, 1000001, 9), (BIG, 5, 9), (5, BIG, 9)):
            self.assertEqual(line.grant(1, 0, 0, *told), -22, told)
        self.assertEqual(line.grant(1, 0, 0, 1000000, 1000000, BIG), 0)
        self.assertEqual(line.grant(1, 0, 0, 0, 0, 0), 1, "up to this day")
        self.assertEqual(line.grant(1, 0, 0, 9, 5, 9), 2, "more at a time than in all")

    def test_to_oneself(self):
        self.assertEqual(a_line().grant(1, 1, 0, 5, 5, 9), -12)

    def test_who_may_not_say_yes(self):
        line = a_line(may=6)
        self.assertEqual(line.grant(0, 1, 0, 5, 5, 9), -13)
        self.assertEqual(line.grant(3, 1, 0, 5, 5, 9), -13)
        self.assertEqual(line.grant(2, 3, 0, 5, 5, 9), 0, "to whom doesn't matter")

    def test_order(self):
        line = a_line(may=14)
        self.assertEqual(line.grant(0, 0, 1, BIG, 5, 9), -2)
        self.assertEqual(line.grant(0, 0, 0, BIG, 5, 9), -22)
        self.assertEqual(line.grant(0, 0, 0, 5, 5, 9), -12)
        self.assertEqual(line.grant(0, 1, 0, 5, BIG, 9), -22)
        line.all_of("grant", *[(1, 0, 0, 5, 5, 9)] * 10)
        self.assertEqual(line.grant(1, 0, 0, 5, BIG, 9), -22)
        self.assertEqual(line.grant(1, 1, 0, 5, 5, 9), -12)
        self.assertEqual(line.grant(0, 1, 0, 5, 5, 9), -13)
        self.assertEqual(line.grant(1, 0, 0, 5, 5, 9), -28)

    def test_what_it_allows(self):
        line = a_line()
        line.grant(1, 0, 0, 5, 12, 9)
        self.assertEqual(draw(line, 0, 0, 6, 0), -14, "more than at a time")
        self.assertEqual(draw(line, 0, 1, 5, 0), 1)
        self.assertEqual(draw(line, 0, 2, 5, 0), 2)
        self.assertEqual(draw(line, 0, 3, 3, 0), -14, "more than in all")
        self.assertEqual(draw(line, 0, 4, 2, 0), 3)
        self.assertEqual(draw(line, 0, 5, 0, 0), 4, "nothing is left, and nothing is asked for")
        self.assertEqual(draw(line, 0, 6, 1, 0), -14)


class Hand(unittest.TestCase):
    def line(self):
        line = a_line(people=5, may=31)
        line.grant(1, 0, 0, 5, 12, 9)
        return line

    def test_one_more(self):
        line = self.line()
        self.assertEqual(line.hand(0, 2, 5, 12, 9), 1)
        self.assertEqual(line.hand(0, 3, 0, 0, 0), 2)
        self.assertEqual(line.hand(1, 3, 4, 11, 8), 3)
        self.assertEqual(draw(line, 2, 0, 5, 1), 1)

    def test_no_such_standing_yes_or_person(self):
        line = self.line()
        for told in ((1, 2, 5, 12, 9), (BIG, 2, 5, 12, 9), (0, 5, 5, 12, 9), (0, BIG, 5, 12, 9), (BIG,) * 5):
            self.assertEqual(line.hand(*told), -2, told)

    def test_to_who_has_it(self):
        line = self.line()
        self.assertEqual(line.hand(0, 0, 5, 12, 9), -12)
        self.assertEqual(line.hand(0, 1, 5, 12, 9), 1, "back to who gave it")
        self.assertEqual(line.hand(1, 1, 5, 12, 9), -12)
        self.assertEqual(line.hand(1, 0, 5, 12, 9), 2)

    def test_it_isn_t_living(self):
        line = self.line()
        line.hand(0, 2, 5, 12, 9)
        line.revoke(0)
        self.assertEqual(line.hand(0, 3, 5, 12, 9), -14)
        self.assertEqual(line.hand(1, 3, 5, 12, 9), -14, "what it came from is taken back")

    def test_never_more_than_it_has(self):
        line = self.line()
        for told in ((6, 12, 9), (5, 13, 9), (5, 12, 10), (BIG, 12, 9), (5, BIG, 9), (5, 12, BIG)):
            self.assertEqual(line.hand(0, 2, *told), -15, told)
        line.hand(0, 2, 4, 8, 7)
        for told in ((5, 8, 7), (4, 9, 7), (4, 8, 8)):
            self.assertEqual(line.hand(1, 3, *told), -15, told)
        self.assertEqual(line.hand(1, 3, 4, 8, 7), 2)

    def test_as_much_as_it_says_even_if_less_is_left(self):
        line = self.line()
        draw(line, 0, 0, 5, 0)
        self.assertEqual(line.hand(0, 2, 5, 12, 9), 1)
        self.assertEqual(draw(line, 2, 1, 5, 1), 2)
        self.assertEqual(draw(line, 2, 2, 3, 1), -14, "12 in all, 10 of it gone")
        self.assertEqual(draw(line, 2, 3, 2, 1), 3)

    def test_who_hands_on_needn_t_be_one_who_may(self):
        line = a_line(may=2)
        line.grant(1, 0, 0, 5, 12, 9)
        self.assertEqual(line.hand(0, 2, 5, 12, 9), 1)

    def test_order(self):
        line = self.line()
        line.hand(0, 2, 4, 8, 7)
        self.assertEqual(line.hand(5, 2, BIG, 0, 0), -2)
        line.all_of("grant", *[(1, 0, 0, 5, 5, 9)] * 8)
        self.assertEqual(line.hand(0, 0, BIG, 12, 9), -12, "ahead of -15 and -28")
        self.assertEqual(line.hand(0, 2, 6, 12, 9), -15, "ahead of -28")
        self.assertEqual(line.hand(0, 2, 5, 12, 9), -28)
        line.revoke(0)
        self.assertEqual(line.hand(0, 0, BIG, 12, 9), -12, "ahead of -14")
        self.assertEqual(line.hand(0, 2, BIG, 12, 9), -14, "ahead of -15")
        self.assertEqual(line.hand(0, 2, 5, 12, 9), -14, "ahead of -28")

    def test_its_kind_goes_along(self):
        line = a_line()
        line.rule(15, 1, 0, 1000, 5)
        line.grant(1, 0, 1, 5, 12, 9)
        line.hand(0, 2, 5, 12, 9)
        line.all_of("ask", (2, 0, 7, 5), (2, 1, 7, 5))
        self.assertEqual(line.use(0, 1), -22)
        self.assertEqual(line.use(1, 1), 1)


class Revoke(unittest.TestCase):
    def tree(self):
        """0 has 1 and 2 handed on from it, 1 has 3; 4 stands by itself."""
        line = a_line(people=6, may=63)
        line.grant(0, 1, 0, 5, 50, 9)
        line.all_of("hand", (0, 2, 5, 50, 9), (0, 3, 5, 50, 9), (1, 4, 5, 50, 9))
        line.grant(0, 5, 0, 5, 50, 9)
        return line

    def test_how_many_were_living(self):
        self.assertEqual([self.tree().revoke(g) for g in range(5)], [4, 2, 1, 1, 1])

    def test_those_taken_back_before_don_t_count(self):
        line = self.tree()
        self.assertEqual(line.revoke(1), 2)
        self.assertEqual(line.revoke(3), 0, "its chain is taken back, it itself was not")
        self.assertEqual(line.revoke(3), -17)
        self.assertEqual(line.revoke(0), 2)
        self.assertEqual(line.revoke(2), 0)
        self.assertEqual(line.revoke(4), 1)

    def test_taken_back_itself_already(self):
        line = self.tree()
        line.revoke(0)
        self.assertEqual(line.revoke(0), -17)
        self.assertEqual(line.revoke(1), 0)
        self.assertEqual(line.revoke(1), -17)

    def test_no_such_standing_yes(self):
        line = self.tree()
        self.assertEqual(line.revoke(5), -2)
        self.assertEqual(line.revoke(BIG), -2)
        self.assertEqual(Line(2).revoke(0), -2)

    def test_nothing_is_done_by_it_nor_by_what_s_beneath(self):
        line = self.tree()
        for number, (person, g) in enumerate(((1, 0), (2, 1), (3, 2), (4, 3), (5, 4))):
            line.ask(person, 0, 7, 5)
            line.use(number, g)
        self.assertEqual([line.could(r) for r in range(5)], [0, 0, 0, 0, 0])
        line.revoke(1)
        self.assertEqual([line.could(r) for r in range(5)], [0, -14, 0, -14, 0])
        line.revoke(0)
        self.assertEqual([line.could(r) for r in range(5)], [-14, -14, -14, -14, 0])

    def test_a_chain_of_ten(self):
        line = a_line(people=8, may=255)
        line.grant(0, 1, 0, 5, 50, 9)
        for g in range(9):
            self.assertEqual(line.hand(g, 2 - g % 2, 5, 50, 9), g + 1)
        self.assertEqual(line.hand(9, 5, 5, 50, 9), -28)
        self.assertEqual(line.revoke(0), 10)


class Use(unittest.TestCase):
    def test_how_many_it_uses(self):
        line = a_line()
        line.all_of("grant", *[(1, 0, 0, 5, 50, 9)] * 4)
        line.ask(0, 0, 7, 5)
        self.assertEqual([line.use(0, g) for g in (2, 0, 3, 1)], [1, 2, 3, -28])

    def test_no_such_thing(self):
        line = a_line()
        line.grant(1, 0, 0, 5, 50, 9)
        self.assertEqual(line.use(0, 0), -2)
        line.ask(0, 0, 7, 5)
        for told in ((1, 0), (0, 1), (BIG, 0), (0, BIG), (BIG, BIG)):
            self.assertEqual(line.use(*told), -2, told)
        self.assertEqual(line.use(0, 0), 1)

    def test_who_asks_isn_t_who_has_it(self):
        line = a_line()
        line.grant(1, 0, 0, 5, 50, 9)
        line.hand(0, 2, 5, 50, 9)
        line.all_of("ask", (0, 0, 7, 5), (1, 0, 7, 5), (2, 0, 7, 5))
        self.assertEqual([line.use(r, 0) for r in range(3)], [1, -12, -12])
        self.assertEqual([line.use(r, 1) for r in range(3)], [-12, -12, 1])

    def test_one_taken_back_may_be_used_but_doesn_t_hold(self):
        line = a_line()
        line.grant(1, 0, 0, 5, 50, 9)
        line.revoke(0)
        line.ask(0, 0, 7, 5)
        self.assertEqual(line.use(0, 0), 1)
        self.assertEqual(line.counts(0), 0)
        self.assertEqual(line.could(0), -14)

    def test_order(self):
        line = a_line()
        line.rule(15, 1, 0, 1000, 5)
        line.all_of("grant", *[(1, 0, 0, 5, 50, 9)] * 4)
        line.all_of("grant", (1, 0, 1, 5, 50, 9), (1, 2, 1, 5, 50, 9))
        line.ask(0, 0, 7, 5)
        self.assertEqual(line.use(0, 5), -12, "ahead of -22")
        self.assertEqual(line.use(0, 4), -22)
        line.all_of("use", (0, 0), (0, 1), (0, 2))
        self.assertEqual(line.use(0, 4), -22, "ahead of -28")
        self.assertEqual(line.use(0, 5), -12, "ahead of -28")
        self.assertEqual(line.use(0, 1), -17, "ahead of -28")
        self.assertEqual(line.use(0, 3), -28)
        line.withdraw(0)
        self.assertEqual([line.use(0, g) for g in range(6)], [-6] * 6)
        self.assertEqual(line.use(0, 6), -2)

    def test_already_with_one(self):
        line = a_line()
        line.grant(1, 0, 0, 5, 50, 9)
        line.ask(0, 0, 7, 5)
        line.use(0, 0)
        self.assertEqual(line.use(0, 0), -17)


if __name__ == "__main__":
    unittest.main()
