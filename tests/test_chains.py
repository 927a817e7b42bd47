"""Point 3, what it tells: lives, room, root, under, chain, drawn, grantis."""

import unittest

from tests.lines import BIG, Line, a_line

TELLING = ("lives", "room", "root", "under", "chain", "drawn", "grantis")


def draw(line, g, amount):
    """Whoever has g asks for an amount, uses it, and it's done; answers what do answers."""
    holder = line.grantis(g)[2]
    r = line.ask(holder, line.grantis(g)[0], 7, amount)
    line.use(r, g)
    return line.do(r)


def a_tree():
    """0 from 5 to 0; 1 and 2 handed on from it, 3 from 1, 4 from 2; 5 by itself, from 4 to 0; 6 handed on from 3."""
    line = a_line(people=6, may=63, lives=30)
    line.grant(5, 0, 0, 9, 50, 20)
    line.all_of("hand", (0, 1, 9, 40, 20), (0, 2, 9, 50, 20), (1, 3, 8, 30, 10), (2, 4, 9, 12, 20))
    line.grant(4, 0, 0, 9, 50, 20)
    line.hand(3, 5, 7, 20, 9)
    return line


def a_chain_of_ten():
    """Person 7's, handed on and on between 0 and 1, each time one day, one at a time and two in all less."""
    line = a_line(people=8, may=255, lives=30)
    line.grant(7, 0, 0, 20, 100, 20)
    for g in range(9):
        line.hand(g, 1 - g % 2, 19 - g, 98 - 2 * g, 19 - g)
    return line


class NoSuchStandingYes(unittest.TestCase):
    def test_each_call(self):
        empty = a_line()
        line = a_line()
        line.grant(1, 0, 0, 5, 50, 9)
        ten = a_chain_of_ten()
        for name in TELLING:
            self.assertEqual(empty.each(name, 0, 1, BIG), [-2] * 3, name)
            self.assertEqual(line.each(name, 1, 9, 10, BIG), [-2] * 4, name)
            self.assertEqual(ten.each(name, 10, 11, BIG), [-2] * 3, name)


class Chain(unittest.TestCase):
    def test_it_and_so_on_up_to_the_last(self):
        due = [[1, 0], [2, 1, 0], [2, 2, 0], [3, 3, 1, 0], [3, 4, 2, 0], [1, 5], [4, 6, 3, 1, 0]]
        self.assertEqual(a_tree().each("chain", *range(7)), due)

    def test_taken_back_or_past_its_day_it_stays(self):
        line = a_tree()
        line.revoke(1)
        line.to_day(30)
        self.assertEqual(line.chain(6), [4, 6, 3, 1, 0])

    def test_a_chain_of_ten(self):
        line = a_chain_of_ten()
        self.assertEqual(line.chain(9), [10, 9, 8, 7, 6, 5, 4, 3, 2, 1, 0])
        self.assertEqual(line.chain(4), [5, 4, 3, 2, 1, 0])


class Under(unittest.TestCase):
    def test_those_beneath_it_rising(self):
        due = [[6, 0, 1, 2, 3, 4, 6], [3, 1, 3, 6], [2, 2, 4], [2, 3, 6], [1, 4], [1, 5], [1, 6]]
        self.assertEqual(a_tree().each("under", *range(7)), due)

    def test_whether_they_re_living_or_not(self):
        line = a_tree()
        line.all_of("revoke", (3,), (0,))
        line.to_day(30)
        self.assertEqual(line.under(0), [6, 0, 1, 2, 3, 4, 6])

    def test_a_chain_of_ten(self):
        line = a_chain_of_ten()
        self.assertEqual(line.under(0), [10, *range(10)])
        self.assertEqual([line.under(7), line.under(9)], [[3, 7, 8, 9], [1, 9]])

    def test_nine_handed_on_from_one(self):
        line = a_line()
        line.grant(1, 0, 0, 5, 50, 9)
        line.all_of("hand", *[(0, 2, 5, 50, 9)] * 9)
        self.assertEqual(line.under(0), [10, *range(10)])
        self.assertEqual(line.each("under", *range(1, 10)), [[1, g] for g in range(1, 10)])


class Root(unittest.TestCase):
    def test_from_whom_the_last_of_the_chain_comes(self):
        self.assertEqual(a_tree().each("root", *range(7)), [5, 5, 5, 5, 5, 4, 5])

    def test_that_comes_back_to_its_root(self):
        line = a_line()
        line.grant(2, 0, 0, 5, 50, 9)
        line.all_of("hand", (0, 2, 5, 50, 9), (1, 3, 5, 50, 9))
        self.assertEqual(line.each("root", 0, 1, 2), [2, 2, 2])

    def test_person_0(self):
        line = a_line()
        line.grant(0, 1, 0, 5, 50, 9)
        line.hand(0, 2, 5, 50, 9)
        self.assertEqual(line.each("root", 0, 1), [0, 0])

    def test_whoever_may_no_longer_is_it_still(self):
        line = a_tree()
        line.rerule(0, 0, 1, 0, 1000, 5)
        line.revoke(0)
        self.assertEqual(line.root(6), 5)

    def test_a_chain_of_ten(self):
        self.assertEqual(a_chain_of_ten().each("root", *range(10)), [7] * 10)


class Lives(unittest.TestCase):
    def test_none_of_its_chain_is_taken_back(self):
        for g, due in ((0, [0, 0, 0, 0, 0, 1, 0]), (1, [1, 0, 1, 0, 1, 1, 0]), (2, [1, 1, 0, 1, 0, 1, 1]),
                       (3, [1, 1, 1, 0, 1, 1, 0]), (6, [1, 1, 1, 1, 1, 1, 0])):
            line = a_tree()
            self.assertEqual(line.each("lives", *range(7)), [1] * 7)
            line.revoke(g)
            self.assertEqual(line.each("lives", *range(7)), due)

    def test_nor_past_its_day(self):
        line = a_tree()
        for day, due in ((9, [1, 1, 1, 1, 1, 1, 1]), (10, [1, 1, 1, 1, 1, 1, 0]), (11, [1, 1, 1, 0, 1, 1, 0]),
                         (20, [1, 1, 1, 0, 1, 1, 0]), (21, [0] * 7)):
            line.to_day(day)
            self.assertEqual(line.each("lives", *range(7)), due, day)

    def test_nothing_else_matters(self):
        line = a_line()
        line.grant(1, 0, 0, 5, 5, 0)
        line.grant(1, 0, 0, 0, 0, 0)
        self.assertEqual(draw(line, 0, 5), 1)
        line.rerule(0, 0, 1, 0, 0, 1)
        self.assertEqual(line.each("lives", 0, 1), [1, 1], "nothing left of it, and 1 may no longer")

    def test_a_chain_of_ten(self):
        for g in range(10):
            line = a_chain_of_ten()
            line.revoke(g)
            self.assertEqual(line.each("lives", *range(10)), [1] * g + [0] * (10 - g))
        line = a_chain_of_ten()
        for day in range(11, 22):
            line.to_day(day)
            self.assertEqual(line.each("lives", *range(10)), [1] * (21 - day) + [0] * (day - 11))


class DrawnAndRoom(unittest.TestCase):
    def test_nothing_yet(self):
        line = a_tree()
        self.assertEqual(line.each("drawn", *range(7)), [0] * 7)
        self.assertEqual(line.each("room", *range(7)), [50, 40, 50, 30, 12, 50, 20])

    def test_that_used_it_or_one_beneath(self):
        line = a_tree()
        draw(line, 3, 8)
        self.assertEqual(line.each("drawn", *range(7)), [8, 8, 0, 8, 0, 0, 0])
        self.assertEqual(line.each("room", *range(7)), [42, 32, 42, 22, 12, 50, 20])
        draw(line, 0, 9)
        self.assertEqual(line.each("drawn", *range(7)), [17, 8, 0, 8, 0, 0, 0])
        draw(line, 2, 9)
        draw(line, 2, 9)
        self.assertEqual(line.each("drawn", *range(7)), [35, 8, 18, 8, 0, 0, 0])
        self.assertEqual(line.each("room", *range(7)), [15, 15, 15, 15, 12, 50, 15], "the least of its chain")
        draw(line, 4, 9)
        self.assertEqual(line.each("room", *range(7)), [6, 6, 6, 6, 3, 50, 6])
        draw(line, 5, 9)
        self.assertEqual(line.each("drawn", *range(7)), [44, 8, 27, 8, 9, 9, 0])

    def test_what_is_asked_and_not_done_is_not_drawn(self):
        line = a_tree()
        line.ask(0, 0, 7, 9)
        line.use(0, 0)
        line.could(0)
        self.assertEqual((line.drawn(0), line.room(0)), (0, 50))
        line.no(1, 0)
        self.assertEqual((line.do(0), line.drawn(0), line.room(0)), (-6, 0, 50))

    def test_what_is_done_without_it_is_not_drawn(self):
        line = a_tree()
        line.ask(0, 0, 7, 9)
        line.yes(1, 0, 7, 9)
        self.assertEqual((line.do(0), line.drawn(0), line.drawn(5)), (1, 0, 0))

    def test_what_is_refused_is_not_drawn(self):
        line = a_tree()
        self.assertEqual(draw(line, 6, 7), -13, "who asks is its root")
        self.assertEqual(draw(line, 0, 10), -14, "more than at a time")
        self.assertEqual((line.drawn(6), line.drawn(0)), (0, 0))

    def test_told_otherwise_it_uses_it_no_more(self):
        line = a_tree()
        line.ask(0, 0, 7, 9)
        line.use(0, 0)
        line.change(0, 7, 8)
        line.use(0, 5)
        line.do(0)
        self.assertEqual(line.each("drawn", 0, 5), [0, 8])

    def test_free_or_not_by_it_it_s_drawn(self):
        line = a_line(free=5)
        line.grant(1, 0, 0, 5, 50, 9)
        self.assertEqual((draw(line, 0, 5), line.drawn(0), line.room(0)), (1, 5, 45))

    def test_two_at_once_each_is_drawn_whole(self):
        line = a_line().all_of("grant", (1, 0, 0, 5, 50, 9), (2, 0, 0, 5, 9, 9))
        line.ask(0, 0, 7, 5)
        line.all_of("use", (0, 0), (0, 1))
        line.do(0)
        self.assertEqual((line.each("drawn", 0, 1), line.each("room", 0, 1)), ([5, 5], [45, 4]))

    def test_two_from_one_chain_whose_total_is_just_enough(self):
        line = a_line()
        line.grant(1, 0, 0, 5, 5, 9)
        line.all_of("hand", (0, 2, 5, 5, 9), (1, 0, 5, 5, 9), (0, 0, 5, 5, 9))
        line.ask(0, 0, 7, 5)
        self.assertEqual([line.use(0, 0), line.use(0, 2), line.use(0, 3)], [1, 2, -2])
        self.assertEqual(line.do(0), 1)
        self.assertEqual(line.each("drawn", 0, 1, 2), [5, 5, 5], "once, however many of its chain it used")
        self.assertEqual(line.each("room", 0, 1, 2), [0, 0, 0])

    def test_two_beneath_one_it_s_drawn_once_by_that_one(self):
        line = a_line(people=3, may=7)
        line.grant(1, 2, 0, 5, 5, 9)
        line.all_of("hand", (0, 0, 5, 5, 9), (0, 0, 5, 5, 9))
        line.ask(0, 0, 7, 5)
        line.all_of("use", (0, 1), (0, 2))
        self.assertEqual((line.do(0), line.each("drawn", 0, 1, 2)), (1, [5, 5, 5]))

    def test_taken_back_there_is_no_room_and_what_s_drawn_stays(self):
        line = a_tree()
        draw(line, 3, 8)
        line.revoke(1)
        self.assertEqual(line.each("room", *range(7)), [42, 0, 42, 0, 12, 50, 0])
        self.assertEqual(line.each("drawn", *range(7)), [8, 8, 0, 8, 0, 0, 0])

    def test_past_its_day_there_is_no_room_and_what_s_drawn_stays(self):
        line = a_tree()
        draw(line, 3, 7)
        line.to_day(10)
        self.assertEqual(line.each("room", *range(7)), [43, 33, 43, 23, 12, 50, 0])
        line.tick(1)
        self.assertEqual(line.each("room", *range(7)), [43, 33, 43, 0, 12, 50, 0])
        line.to_day(21)
        self.assertEqual(line.each("room", *range(7)), [0] * 7)
        self.assertEqual(line.each("drawn", *range(7)), [7, 7, 0, 7, 0, 0, 0])

    def test_room_is_more_than_at_a_time_where_it_says_so(self):
        line = a_line().all_of("grant", (1, 0, 0, 5, 50, 9), (1, 0, 0, 0, 50, 9), (1, 0, 0, 50, 0, 9))
        self.assertEqual(line.each("room", 0, 1, 2), [50, 50, 0])

    def test_the_largest_amounts(self):
        line = a_line(daily=1000000)
        line.grant(1, 0, 0, 1000000, 1000000, BIG)
        self.assertEqual(line.room(0), 1000000)
        self.assertEqual((draw(line, 0, 1000000), line.drawn(0), line.room(0)), (1, 1000000, 0))

    def test_a_chain_of_ten(self):
        line = a_chain_of_ten()
        self.assertEqual(line.each("room", *range(10)), [100 - 2 * g for g in range(10)])
        self.assertEqual(draw(line, 9, 11), 1)
        self.assertEqual(line.each("drawn", *range(10)), [11] * 10)
        self.assertEqual(line.each("room", *range(10)), [89 - 2 * g for g in range(10)])
        self.assertEqual([draw(line, 0, 20), draw(line, 0, 20)], [2, 3])
        self.assertEqual(line.each("drawn", *range(10)), [51] + [11] * 9)
        self.assertEqual(line.each("room", *range(10)), [49] * 10, "49 are left of the first")


class GrantIs(unittest.TestCase):
    """kind, from whom, to whom, each, total, till, 0 or one more than the one it came from, 1 or 0."""

    def test_given(self):
        line = a_line()
        line.rule(15, 1, 0, 1000, 5)
        line.all_of("grant", (1, 0, 1, 5, 50, 9), (3, 2, 0, 1000000, 0, BIG), (0, 3, 0, 0, 1000000, 0))
        due = [[1, 1, 0, 5, 50, 9, 0, 0], [0, 3, 2, 1000000, 0, BIG, 0, 0], [0, 0, 3, 0, 1000000, 0, 0, 0]]
        self.assertEqual(line.each("grantis", 0, 1, 2), due)

    def test_handed_on(self):
        line = a_tree()
        due = [[0, 5, 0, 9, 50, 20, 0, 0], [0, 0, 1, 9, 40, 20, 1, 0], [0, 0, 2, 9, 50, 20, 1, 0],
               [0, 1, 3, 8, 30, 10, 2, 0], [0, 2, 4, 9, 12, 20, 3, 0], [0, 4, 0, 9, 50, 20, 0, 0],
               [0, 3, 5, 7, 20, 9, 4, 0]]
        self.assertEqual(line.each("grantis", *range(7)), due)

    def test_last_1_if_it_s_taken_back_itself(self):
        line = a_tree()
        line.revoke(1)
        self.assertEqual([line.grantis(g)[7] for g in range(7)], [0, 1, 0, 0, 0, 0, 0])
        line.all_of("revoke", (6,), (0,))
        self.assertEqual([line.grantis(g)[7] for g in range(7)], [1, 1, 0, 0, 0, 0, 1])

    def test_past_its_day_it_s_not_taken_back(self):
        line = a_tree().to_day(21)
        self.assertEqual(line.grantis(0), [0, 5, 0, 9, 50, 20, 0, 0])

    def test_what_s_drawn_and_a_rule_told_anew_leave_it(self):
        line = a_tree()
        draw(line, 0, 9)
        line.rerule(0, 0, 3, 0, 0, 1)
        self.assertEqual(line.grantis(0), [0, 5, 0, 9, 50, 20, 0, 0])

    def test_a_refused_one_is_none(self):
        line = a_tree()
        self.assertEqual([line.grant(5, 5, 0, 9, 50, 20), line.hand(3, 0, 9, 30, 10)], [-12, -15])
        self.assertEqual(line.grantis(7), -2)

    def test_a_chain_of_ten(self):
        line = a_chain_of_ten()
        self.assertEqual(line.grantis(0), [0, 7, 0, 20, 100, 20, 0, 0])
        for g in range(1, 10):
            holder = g % 2
            self.assertEqual(line.grantis(g), [0, 1 - holder, holder, 20 - g, 100 - 2 * g, 20 - g, g, 0])


if __name__ == "__main__":
    unittest.main()
