"""Point 5: most, the most that somebody may do today with nobody's yes but standing ones."""

import itertools
import unittest

from tests.lines import BIG, Line, a_line, answered


def granted(line, *rows):
    """Standing yeses of kind 0 to person 0, without an end: (from whom, each, total)."""
    for giver, each, total in rows:
        line.grant(giver, 0, 0, each, total, BIG)
    return line


class Free(unittest.TestCase):
    def test_nothing_free_and_no_standing_yes(self):
        line = a_line()
        self.assertEqual([line.most(q, 0) for q in range(4)], [0] * 4)

    def test_up_to_what_s_free_with_nobody_s(self):
        line = a_line(may=0, need=3, free=7)
        self.assertEqual([line.most(q, 0) for q in range(4)], [7] * 4)

    def test_all_that_s_left_if_nobody_need(self):
        line = a_line(may=0, need=0, daily=40)
        self.assertEqual([line.most(q, 0) for q in range(4)], [40] * 4)
        line.do(line.ask(0, 0, 7, 9))
        self.assertEqual(line.most(2, 0), 31)

    def test_what_s_free_or_by_standing_yeses_whichever_is_more(self):
        for each, due in ((6, 7), (7, 7), (8, 8)):
            self.assertEqual(granted(a_line(free=7), (1, each, 50)).most(0, 0), due)
            self.assertEqual(granted(a_line(free=7), (1, 50, each)).most(0, 0), due)

    def test_never_more_than_is_left(self):
        for daily, due in ((3, 3), (7, 7), (8, 7), (0, 0)):
            self.assertEqual(a_line(free=7, daily=daily).most(0, 0), due)

    def test_once_done_it_s_free_again(self):
        line = a_line(free=7, daily=20)
        for due in (7, 7, 6, 0):
            self.assertEqual(line.most(0, 0), due)
            line.do(line.ask(0, 0, 7, due))


class OneMust(unittest.TestCase):
    def test_at_a_time(self):
        line = granted(a_line(), (1, 9, 50))
        self.assertEqual([line.most(q, 0) for q in range(4)], [9, 0, 0, 0])

    def test_its_room(self):
        self.assertEqual(granted(a_line(), (1, 50, 9)).most(0, 0), 9)
        line = granted(a_line(), (1, 9, 13))
        line.ask(0, 0, 7, 9)
        line.use(0, 0)
        line.do(0)
        self.assertEqual((line.room(0), line.most(0, 0)), (4, 4))

    def test_the_room_of_its_chain(self):
        line = granted(a_line(), (1, 9, 20))
        line.hand(0, 2, 8, 18, 9)
        self.assertEqual((line.most(0, 0), line.most(2, 0)), (9, 8))
        line.all_of("ask", (0, 0, 7, 9), (0, 0, 7, 5))
        line.all_of("use", (0, 0), (1, 0))
        line.do(0)
        self.assertEqual((line.most(0, 0), line.most(2, 0)), (9, 8))
        line.do(1)
        self.assertEqual((line.most(0, 0), line.most(2, 0)), (6, 6))

    def test_what_s_left_today_is_less_than_both(self):
        line = granted(a_line(daily=8), (1, 9, 10))
        self.assertEqual(line.most(0, 0), 8)
        line.ask(3, 0, 7, 5)
        line.yes(2, 0, 7, 5)
        line.do(0)
        self.assertEqual(line.most(0, 0), 3)
        line.rerule(0, 15, 1, 0, 4, 5)
        self.assertEqual(line.most(0, 0), 0)
        line.tick(1)
        self.assertEqual(line.most(0, 0), 4)

    def test_the_one_that_allows_most(self):
        for rows, due in ((((1, 4, 50), (1, 9, 50), (1, 7, 50)), 9), (((1, 4, 50), (2, 9, 50), (3, 7, 50)), 9),
                          (((1, 50, 6), (2, 8, 8), (1, 7, 50)), 8), (((1, 9, 3), (1, 3, 9)), 3)):
            self.assertEqual(granted(a_line(), *rows).most(0, 0), due)

    def test_not_together(self):
        self.assertEqual(granted(a_line(), (1, 4, 50), (2, 4, 50), (3, 4, 50)).most(0, 0), 4)

    def test_of_that_kind_alone(self):
        line = granted(a_line(), (1, 9, 50))
        line.rule(15, 1, 2, 1000, 5)
        line.grant(1, 0, 1, 6, 50, 9)
        self.assertEqual((line.most(0, 0), line.most(0, 1)), (9, 6))

    def test_a_root_who_may_no_longer(self):
        line = granted(a_line(), (1, 9, 50), (2, 5, 50))
        line.rerule(0, 13, 1, 0, 1000, 5)
        self.assertEqual(line.most(0, 0), 5)
        line.rerule(0, 9, 1, 2, 1000, 5)
        self.assertEqual(line.most(0, 0), 2)

    def test_not_from_oneself(self):
        line = a_line()
        line.grant(0, 1, 0, 9, 50, 9)
        line.hand(0, 0, 9, 50, 9)
        self.assertEqual((line.most(0, 0), line.most(1, 0)), (0, 9))
        line.grant(2, 0, 0, 4, 50, 9)
        self.assertEqual(line.most(0, 0), 4)

    def test_living_ones_alone(self):
        line = granted(a_line(), (1, 9, 50))
        line.all_of("hand", (0, 2, 9, 50, 3), (1, 3, 9, 50, 2))
        line.to_day(3)
        self.assertEqual([line.most(q, 0) for q in (0, 2, 3)], [9, 9, 0])
        line.revoke(1)
        self.assertEqual([line.most(q, 0) for q in (0, 2, 3)], [9, 0, 0])

    def test_who_hands_it_on_has_it_still(self):
        line = granted(a_line(), (1, 9, 50))
        line.hand(0, 2, 5, 50, 9)
        self.assertEqual((line.most(0, 0), line.most(2, 0)), (9, 5))

    def test_the_largest_amounts(self):
        line = granted(a_line(daily=1000000), (1, 1000000, 1000000))
        self.assertEqual(line.most(0, 0), 1000000)

    def test_a_chain_of_ten(self):
        line = a_line(people=8, may=255)
        line.grant(7, 0, 0, 20, 100, 9)
        for g in range(9):
            line.hand(g, 1 - g % 2, 19 - g, 98 - 2 * g, 9)
        self.assertEqual((line.most(0, 0), line.most(1, 0), line.most(7, 0)), (20, 19, 0))


class SeveralMust(unittest.TestCase):
    def test_fewer_roots_than_must(self):
        line = granted(a_line(need=2, free=3), (1, 9, 50))
        self.assertEqual(line.most(0, 0), 3)
        line.rerule(0, 15, 2, 0, 1000, 5)
        self.assertEqual(line.most(0, 0), 0)

    def test_fewer_who_may_than_must(self):
        line = granted(a_line(need=3), (1, 9, 50), (2, 9, 50), (3, 9, 50))
        self.assertEqual(line.most(0, 0), 9)
        line.rerule(0, 7, 3, 0, 1000, 5)
        self.assertEqual(line.most(0, 0), 0, "0, 1 and 2 may, and 0 asks")
        line.rerule(0, 0, 3, 4, 1000, 5)
        self.assertEqual(line.most(0, 0), 4)

    def test_two_from_one_root_count_once(self):
        line = granted(a_line(need=2), (1, 9, 50), (1, 8, 50))
        self.assertEqual(line.most(0, 0), 0)
        granted(line, (3, 2, 50))
        self.assertEqual(line.most(0, 0), 2)

    def test_as_much_as_all_of_them_allow(self):
        rows = ((1, 9, 50), (2, 50, 7), (3, 8, 8))
        self.assertEqual([granted(a_line(need=need), *rows).most(0, 0) for need in range(4)], [1000, 9, 8, 7])

    def test_of_each_root_the_one_that_allows_most(self):
        rows = ((1, 3, 50), (2, 2, 50), (1, 9, 50), (2, 6, 6), (3, 1, 50), (3, 4, 50), (2, 50, 5))
        self.assertEqual([granted(a_line(need=need), *rows).most(0, 0) for need in (1, 2, 3)], [9, 6, 4])

    def test_more_roots_than_must(self):
        line = granted(a_line(people=8, may=255, need=3), *[(giver, giver, 50) for giver in range(1, 8)])
        self.assertEqual(line.most(0, 0), 5)

    def test_handed_on_from_several(self):
        line = a_line(people=5, may=28, need=2)
        line.all_of("grant", (2, 1, 0, 9, 50, 9), (3, 1, 0, 8, 50, 9), (4, 0, 0, 7, 50, 9))
        line.all_of("hand", (0, 0, 9, 50, 9), (1, 0, 5, 50, 9))
        self.assertEqual((line.most(0, 0), line.most(1, 0)), (7, 8))
        line.revoke(0)
        self.assertEqual((line.most(0, 0), line.most(1, 0)), (5, 0))

    def test_never_more_than_is_left(self):
        line = granted(a_line(need=2, daily=6), (1, 9, 50), (2, 8, 50))
        self.assertEqual(line.most(0, 0), 6)


class MostOtherwise(unittest.TestCase):
    def test_no_such_person_or_kind(self):
        line = a_line()
        for q, k in ((4, 0), (BIG, 0), (0, 1), (0, 4), (0, BIG), (4, 1), (BIG, BIG)):
            self.assertEqual(line.most(q, k), -2)
        self.assertEqual(Line(4).most(0, 0), -2)

    def test_it_changes_nothing(self):
        line = granted(a_line(free=3), (1, 9, 50))
        self.assertEqual([line.most(0, 0), line.most(0, 0)], [9, 9])
        self.assertEqual((line.asked(0), line.done(), line.left(0), line.drawn(0)), (-2, 0, 1000, 0))

    def test_what_is_asked_already_doesn_t_matter(self):
        line = granted(a_line(), (1, 9, 50))
        for number in range(12):
            line.ask(0, 0, 7, 9)
            line.use(number, 0)
        self.assertEqual((line.ask(0, 0, 7, 9), line.most(0, 0)), (-28, 9))

    def test_yeses_said_don_t_matter(self):
        line = a_line()
        line.ask(0, 0, 7, 9)
        line.yes(1, 0, 7, 9)
        self.assertEqual(line.most(0, 0), 0)

    def test_asked_for_just_that_can_be_done_and_one_more_can_t(self):
        """Asks for it, with each at most 3 of the standing yeses that the person has."""
        setting = [
            ("begin", 5), ("rule", 30, 2, 2, 30, 5), ("grant", 1, 0, 0, 9, 40, 9), ("grant", 2, 0, 0, 7, 12, 9),
            ("grant", 3, 1, 0, 8, 8, 9), ("hand", 2, 0, 8, 6, 9), ("grant", 2, 0, 0, 5, 20, 3), ("hand", 0, 4, 9, 30, 4),
            ("grant", 4, 0, 0, 10, 3, 9), ("hand", 5, 0, 8, 30, 2), ("ask", 0, 0, 7, 7), ("use", 0, 0), ("use", 0, 1),
            ("do", 0)]
        held = [0, 1, 3, 4, 6, 7]
        for more in ([], [("tick", 1)], [("tick", 3)], [("tick", 4)], [("revoke", 1)], [("revoke", 2)],
                     [("tick", 1), ("rerule", 0, 30, 1, 0, 30, 5)], [("rerule", 0, 30, 3, 1, 30, 5)],
                     [("tick", 1), ("rerule", 0, 30, 3, 1, 30, 5)], [("rerule", 0, 14, 2, 1, 9, 5)]):
            calls = setting + more
            most = answered(calls + [("most", 0, 0)])[-1]
            done = {most: [], most + 1: []}
            for amount, found in done.items():
                for many in range(4):
                    for used in itertools.combinations(held, many):
                        row = [("ask", 0, 0, 7, amount)] + [("use", 1, g) for g in used] + [("could", 1)]
                        found.append(answered(calls + row)[-1])
            self.assertIn(0, done[most], more)
            self.assertNotIn(0, done[most + 1], more)


if __name__ == "__main__":
    unittest.main()
