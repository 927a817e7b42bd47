"""Point 1: begin, rule, rerule, ruleis. (tick and today are in test_days.)"""

import unittest

from tests.lines import BIG, CALLS, Line, a_line, answered

ALL_BUT_BEGIN = [name for name in CALLS if name != "begin"]


class Begin(unittest.TestCase):
    def test_one_to_eight_people(self):
        for people in range(1, 9):
            self.assertEqual(Line().begin(people), 0)

    def test_no_other_number_of_people(self):
        for people in (0, 9, 10, 256, BIG):
            self.assertEqual(Line().begin(people), -22)

    def test_all_else_is_refused_before(self):
        for name in ALL_BUT_BEGIN:
            for value in (0, 1, BIG):
                told = [value] * CALLS[name][1]
                self.assertEqual(answered([(name, *told)]), [-11], name)
                self.assertEqual(answered([("begin", 0), (name, *told)]), [-22, -11], name)
                self.assertEqual(answered([("begin", 9), (name, *told)]), [-22, -11], name)

    def test_all_else_is_taken_after(self):
        for name in ALL_BUT_BEGIN:
            told = [BIG] * CALLS[name][1]
            first, last = answered([("begin", 8), (name, *told)])
            self.assertEqual(first, 0)
            self.assertNotEqual(last, -11, name)

    def test_a_begin_after_refused_ones(self):
        line = Line()
        self.assertEqual(line.begin(0), -22)
        self.assertEqual(line.rule(1, 0, 0, 0, 1), -11)
        self.assertEqual(line.begin(1), 0)
        self.assertEqual(line.rule(1, 0, 0, 0, 1), 0)

    def test_again_it_begins_anew(self):
        line = a_line(people=4, daily=10)
        line.grant(0, 1, 0, 5, 5, 3)
        line.ask(1, 0, 7, 5)
        line.use(0, 0)
        self.assertEqual(line.do(0), 1)
        self.assertEqual(line.begin(2), 0)
        self.assertEqual(line.could(0), -2)
        self.assertEqual(line.revoke(0), -2)
        self.assertEqual(line.rerule(0, 3, 1, 0, 10, 5), -2)
        self.assertEqual(line.rule(4, 1, 0, 10, 5), -22)
        self.assertEqual(line.rule(3, 1, 10, 10, 5), 0)
        self.assertEqual(line.ask(2, 0, 7, 10), -2)
        self.assertEqual(line.ask(1, 0, 7, 10), 0)
        self.assertEqual(line.grant(0, 1, 0, 5, 5, 3), 0)
        self.assertEqual(line.do(0), 1)

    def test_again_nothing_is_there(self):
        line = a_line()
        line.grant(1, 0, 0, 5, 5, 3)
        line.ask(0, 0, 7, 5)
        line.use(0, 0)
        line.do(0)
        line.tick(1)
        line.begin(4)
        self.assertEqual([line.ruleis(0), line.asked(0), line.grantis(0), line.log(0)], [-2] * 4)
        self.assertEqual([line.done(), line.today()], [0, 0])

    def test_again_more_people(self):
        line = Line(1)
        self.assertEqual(line.rule(2, 0, 0, 0, 1), -22)
        self.assertEqual(line.begin(8), 0)
        self.assertEqual(line.rule(255, 0, 0, 0, 1), 0)

    def test_refused_again_changes_nothing(self):
        line = a_line()
        line.ask(0, 0, 7, 5)
        self.assertEqual(line.begin(0), -22)
        self.assertEqual(line.begin(9), -22)
        self.assertEqual(line.yes(1, 0, 7, 5), 1)
        self.assertEqual(line.rule(1, 0, 0, 0, 1), 1)


class MakeRule(unittest.TestCase):
    def test_numbered_from_0_and_at_most_4(self):
        line = Line(2)
        for kind in range(4):
            self.assertEqual(line.rule(3, 1, 0, 10, 5), kind)
        self.assertEqual(line.rule(3, 1, 0, 10, 5), -28)
        self.assertEqual(line.rule(3, 1, 0, 10, 5), -28)

    def test_the_bounds_are_in(self):
        for told in ((0, 0, 0, 0, 1), (3, 3, 1000000, 1000000, 30), (0, 3, 0, 0, 1), (3, 0, 1000000, 0, 30)):
            self.assertEqual(Line(2).rule(*told), 0, told)

    def test_behind_the_bounds(self):
        wrong = (
            (4, 1, 0, 10, 5), (8, 1, 0, 10, 5), (BIG, 1, 0, 10, 5), (3, 4, 0, 10, 5), (3, BIG, 0, 10, 5),
            (3, 1, 1000001, 10, 5), (3, 1, BIG, 10, 5), (3, 1, 0, 1000001, 5), (3, 1, 0, BIG, 5),
            (3, 1, 0, 10, 0), (3, 1, 0, 10, 31), (3, 1, 0, 10, BIG), (BIG, BIG, BIG, BIG, BIG))
        for told in wrong:
            line = Line(2)
            self.assertEqual(line.rule(*told), -22, told)
            self.assertEqual(line.rule(3, 1, 0, 10, 5), 0, "a refused rule is none")

    def test_sets_of_these_people(self):
        for people in range(1, 9):
            self.assertEqual(Line(people).rule(2 ** people - 1, 1, 0, 10, 5), 0)
            self.assertEqual(Line(people).rule(2 ** people, 1, 0, 10, 5), -22)

    def test_a_wrong_rule_ahead_of_one_too_many(self):
        line = Line(2).all_of("rule", *[(3, 1, 0, 10, 5)] * 4)
        self.assertEqual(line.rule(4, 1, 0, 10, 5), -22)
        self.assertEqual(line.rule(3, 1, 0, 10, 31), -22)
        self.assertEqual(line.rule(3, 1, 0, 10, 30), -28)


class Rerule(unittest.TestCase):
    def test_no_such_kind(self):
        line = a_line(people=2, may=3)
        for kind in (1, 3, 4, BIG):
            self.assertEqual(line.rerule(kind, 3, 1, 0, 10, 5), -2)
        self.assertEqual(line.rerule(1, 4, 4, BIG, BIG, 0), -2, "-2 comes first")

    def test_wrong_rules(self):
        wrong = (
            (4, 1, 0, 10, 5), (BIG, 1, 0, 10, 5), (3, 4, 0, 10, 5), (3, BIG, 0, 10, 5), (3, 1, 1000001, 10, 5),
            (3, 1, BIG, 10, 5), (3, 1, 0, 1000001, 5), (3, 1, 0, BIG, 5), (3, 1, 0, 10, 0), (3, 1, 0, 10, 31),
            (3, 1, 0, 10, BIG))
        for told in wrong:
            line = a_line(people=2, may=3, need=2)
            line.ask(0, 0, 7, 10)
            self.assertEqual(line.rerule(0, *told), -22, told)
            self.assertEqual(line.lacks(0), 2, "a refused rule is none")

    def test_the_bounds_are_in(self):
        line = a_line(people=2, may=3)
        for told in ((0, 0, 0, 0, 1), (3, 3, 1000000, 1000000, 30)):
            self.assertEqual(line.rerule(0, *told), 0)

    def test_with_four_kinds(self):
        line = Line(2).all_of("rule", *[(3, 1, 0, 10, 5)] * 4)
        self.assertEqual(line.rerule(3, 3, 2, 0, 10, 5), 0)
        line.all_of("ask", (0, 3, 7, 10), (0, 2, 7, 10))
        self.assertEqual(line.lacks(0), 2)
        self.assertEqual(line.lacks(1), 1, "the other kinds stay as they are")

    def test_each_part_is_so_from_now_on(self):
        line = a_line(people=3, may=7, need=1, free=0, daily=100)
        line.ask(0, 0, 7, 50)
        line.yes(1, 0, 7, 50)
        self.assertEqual(line.could(0), 0)
        line.rerule(0, 7, 2, 0, 100, 5)
        self.assertEqual(line.could(0), -13, "need")
        line.rerule(0, 7, 2, 50, 100, 5)
        self.assertEqual(line.could(0), 0, "free")
        line.rerule(0, 7, 2, 50, 49, 5)
        self.assertEqual(line.could(0), -28, "a day")
        line.rerule(0, 5, 1, 0, 100, 5)
        self.assertEqual(line.could(0), -13, "may")
        line.rerule(0, 7, 1, 0, 100, 5)
        self.assertEqual(line.could(0), 0, "who said yes, said so still")


class RuleIs(unittest.TestCase):
    def test_as_told(self):
        line = Line(4)
        rules = [[9, 3, 17, 1000, 30], [0, 0, 0, 0, 1], [15, 1, 1000000, 1000000, 2], [6, 2, 5, 4, 3]]
        line.all_of("rule", *rules)
        self.assertEqual(line.each("ruleis", 0, 1, 2, 3), rules)

    def test_told_anew_it_s_so_from_now_on(self):
        line = Line(4).all_of("rule", (9, 3, 17, 1000, 30), (6, 2, 5, 4, 3))
        line.rerule(0, 1, 2, 3, 4, 5)
        self.assertEqual(line.each("ruleis", 0, 1), [[1, 2, 3, 4, 5], [6, 2, 5, 4, 3]])

    def test_refused_it_stays(self):
        line = Line(4).all_of("rule", (9, 3, 17, 1000, 30))
        self.assertEqual([line.rerule(0, 16, 1, 1, 1, 1), line.rerule(0, 1, 4, 1, 1, 1)], [-22, -22])
        self.assertEqual([line.rerule(0, 1, 1, 1, 1, 0), line.rerule(1, 1, 1, 1, 1, 1)], [-22, -2])
        self.assertEqual(line.ruleis(0), [9, 3, 17, 1000, 30])

    def test_days_and_deeds_leave_it(self):
        line = a_line(people=4, may=15, need=0, free=2, daily=9, lives=5)
        line.ask(0, 0, 7, 5)
        line.do(0)
        line.tick(30)
        self.assertEqual(line.ruleis(0), [15, 0, 2, 9, 5])

    def test_no_such_kind(self):
        line = Line(4)
        self.assertEqual(line.ruleis(0), -2)
        line.rule(9, 3, 17, 1000, 30)
        self.assertEqual(line.each("ruleis", 1, 4, BIG), [-2] * 3)


if __name__ == "__main__":
    unittest.main()
