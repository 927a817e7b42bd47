"""The interface: how calls lie in the list that's handed in, and answers in the one given back."""

import unittest

from justthisdeed.desk import answers
from tests.lines import BIG, CALLS, SEVERAL, answered, numbers_of, taken_apart

# All the calls of the interface, each with what it answers.
SIXTY = [
    (("today",), [-11]),
    (("begin", 4), [0]),
    (("begin", 0), [-22]),
    (("rule", 15, 2, 5, 100, 3), [0]),
    (("rule", 3, 1, 0, 20, 30), [1]),
    (("rule", 16, 1, 0, 20, 30), [-22]),
    (("rerule", 1, 6, 1, 2, 20, 30), [0]),
    (("ruleis", 1), [6, 1, 2, 20, 30]),
    (("tick", 2), [2]),
    (("tick", 31), [-22]),
    (("ask", 0, 0, 7, 40), [0]),
    (("ask", 3, 1, BIG, 20), [1]),
    (("ask", 1, 0, 0, 0), [2]),
    (("ask", 2, 1, 9, 1000001), [-22]),
    (("yes", 1, 0, 7, 40), [1]),
    (("yes", 2, 0, 7, 41), [-9]),
    (("yes", 2, 1, BIG, 20), [1]),
    (("lacks", 0), [1]),
    (("counts", 0), [2]),
    (("maysay", 0), [12]),
    (("can", 0), [1]),
    (("could", 0), [-13]),
    (("ifyes", 0, 8), [0]),
    (("ifyes", 0, 16), [-22]),
    (("do", 0), [-13]),
    (("grant", 2, 0, 0, 40, 60, 5), [0]),
    (("hand", 0, 3, 40, 50, 4), [1]),
    (("hand", 1, 0, 40, 45, 4), [2]),
    (("grant", 1, 0, 0, 38, 38, 2), [3]),
    (("most", 0, 0), [38]),
    (("under", 0), [3, 0, 1, 2]),
    (("chain", 2), [3, 2, 1, 0]),
    (("root", 2), [2]),
    (("room", 2), [45]),
    (("grantis", 1), [0, 0, 3, 40, 50, 4, 1, 0]),
    (("use", 0, 2), [1]),
    (("use", 0, 0), [2]),
    (("asked", 0), [0, 0, 7, 40, 2, 0, 2, 2, 2, 0]),
    (("tick", 1), [3]),
    (("do", 0), [1]),
    (("do", 1), [2]),
    (("drawn", 1), [40]),
    (("room", 0), [20]),
    (("left", 0), [60]),
    (("log", 0), [0, 3, 0, 0, 7, 40, 6, 2, 2, 0]),
    (("log", 2), [-2]),
    (("revoke", 1), [2]),
    (("lives", 2), [0]),
    (("revoke", 1), [-17]),
    (("change", 2, 8, 5), [0]),
    (("no", 0, 2), [0]),
    (("withdraw", 2), [-6]),
    (("do", 2), [-6]),
    (("done",), [2]),
    (("sum_of", 0, 3, 3), [40]),
    (("sum_of", 1, 0, 2), [0]),
    (("asked", 2), [0, 1, 8, 5, 3, 2, 0, 0]),
    (("tick", 30), [33]),
    (("most", 2, 1), [2]),
    (("today",), [33]),
]

SIXTY_NUMBERS = numbers_of([call for call, _ in SIXTY])

# 3 people, a kind, something asked for, a standing yes, and a deed.
SETTING = [
    ("begin", 3), ("rule", 7, 1, 5, 50, 5), ("ask", 0, 0, 7, 10), ("grant", 1, 0, 0, 20, 30, 4), ("ask", 2, 0, 8, 5),
    ("do", 1)]

# Of each call, behind this setting: whole numbers that are taken, what is answered, and what if one is the largest.
FITTING = {
    "begin": ([3], [0], [-22]),
    "rule": ([7, 1, 0, 50, 5], [1], [-22] * 5),
    "rerule": ([0, 7, 1, 0, 50, 5], [0], [-2] + [-22] * 5),
    "ask": ([1, 0, 7, 5], [2], [-2, -2, 2, -22]),
    "change": ([0, 7, 5], [0], [-2, 0, -22]),
    "yes": ([1, 0, 7, 10], [1], [-2, -2, -9, -9]),
    "no": ([1, 0], [0], [-2, -2]),
    "withdraw": ([0], [0], [-2]),
    "grant": ([1, 0, 0, 5, 5, 5], [1], [-2, -2, -2, -22, -22, 1]),
    "hand": ([0, 2, 20, 30, 4], [1], [-2, -2, -15, -15, -15]),
    "revoke": ([0], [1], [-2]),
    "use": ([0, 0], [1], [-2, -2]),
    "do": ([0], [-13], [-2]),
    "could": ([0], [-13], [-2]),
    "lacks": ([0], [1], [-2]),
    "counts": ([0], [0], [-2]),
    "maysay": ([0], [6], [-2]),
    "can": ([0], [1], [-2]),
    "tick": ([3], [3], [-22]),
    "lives": ([0], [1], [-2]),
    "room": ([0], [30], [-2]),
    "root": ([0], [1], [-2]),
    "under": ([0], [1, 0], [-2]),
    "chain": ([0], [1, 0], [-2]),
    "drawn": ([0], [0], [-2]),
    "left": ([0], [45], [-2]),
    "most": ([0, 0], [20], [-2, -2]),
    "sum_of": ([0, 0, 9], [5], [-2, 0, 5]),
    "ifyes": ([0, 4], [0], [-2, -22]),
    "log": ([0], [1, 0, 0, 2, 8, 5, 0, 0], [-2]),
    "done": ([], [1], []),
    "asked": ([0], [0, 0, 7, 10, 0, 0, 0, 0], [-2]),
    "grantis": ([0], [0, 1, 0, 20, 30, 4, 0, 0], [-2]),
    "ruleis": ([0], [7, 1, 5, 50, 5], [-2]),
    "today": ([], [0], []),
}


def last_row(calls):
    return taken_apart(answers(numbers_of(calls)))[-1]


class Answers(unittest.TestCase):
    def test_sixty_calls_with_all_of_the_interface(self):
        self.assertEqual(len(SIXTY), 60)
        self.assertEqual({call[0] for call, _ in SIXTY}, set(CALLS))
        rows = taken_apart(answers(SIXTY_NUMBERS))
        for at, ((call, due), row) in enumerate(zip(SIXTY, rows, strict=True)):
            self.assertEqual(row, due, f"call {at}, {call}")

    def test_how_many_numbers_are_answered_stands_before_them(self):
        due = []
        for _, row in SIXTY:
            due.extend([len(row)] + row)
        self.assertEqual(answers(SIXTY_NUMBERS), due)

    def test_the_longest_list(self):
        calls = [("begin", 8), ("rule", 255, 0, 0, 9, 5)] + [("grant", 0, 1, 0, 5, 5, 9)] * 58
        self.assertEqual(answered(calls), [0, 0, *range(10)] + [-28] * 48)
        calls = [("begin", 8)] + [("rule", 255, 0, 0, 9, 5)] * 59
        self.assertEqual(answered(calls), [0, 0, 1, 2, 3] + [-28] * 55)

    def test_one_call(self):
        self.assertEqual(answers([0, 8]), [1, 0])
        self.assertEqual(answers([0, 9]), [1, -22])
        self.assertEqual(answers([12, 0]), [1, -11])
        self.assertEqual([answers([30]), answers([34])], [[1, -11], [1, -11]])

    def test_each_call_by_its_number(self):
        self.assertEqual(set(FITTING), set(CALLS))
        setting = numbers_of(SETTING)
        before = [1, 0, 1, 0, 1, 0, 1, 0, 1, 1, 1, 1]
        self.assertEqual(answers(setting), before)
        for number, name in enumerate(FITTING):
            told, due, _ = FITTING[name]
            self.assertEqual(answers(setting + [number] + told), before + [len(due)] + due, name)

    def test_what_tells_several_numbers_is_refused_with_one(self):
        for name in SEVERAL:
            number = CALLS[name][0]
            self.assertEqual(answers([0, 3, number, 0]), [1, 0, 1, -2], name)
            self.assertEqual(answers([number, 0]), [1, -11], name)

    def test_calls_without_numbers_between_others(self):
        self.assertEqual(answers([34, 0, 2, 34, 30, 18, 3, 30, 34, 34]),
                         [1, -11, 1, 0, 1, 0, 1, 0, 1, 3, 1, 0, 1, 3, 1, 3])

    def test_whole_numbers_in_a_list(self):
        given = answers(SIXTY_NUMBERS)
        self.assertIs(type(given), list)
        self.assertEqual({type(number) for number in given}, {int})

    def test_what_is_handed_in_stays(self):
        calls = list(SIXTY_NUMBERS)
        answers(calls)
        self.assertEqual(calls, SIXTY_NUMBERS)

    def test_it_isn_t_changed_for_a_while_either(self):
        class Still(list):
            def refuse(self, *told):
                raise AssertionError("what is handed in is changed")
            __setitem__ = __delitem__ = __iadd__ = append = extend = insert = pop = remove = refuse
            clear = reverse = sort = refuse
        self.assertEqual(answers(Still(SIXTY_NUMBERS)), answers(SIXTY_NUMBERS))

    def test_two_lists_one_behind_the_other(self):
        other = numbers_of([
            ("rule", 1, 0, 0, 0, 1), ("begin", 2), ("asked", 0), ("rule", 3, 1, 0, 0, 1), ("ask", 0, 0, 7, 5), ("done",),
            ("log", 0), ("today",)])
        alone = [1, -11, 1, 0, 1, -2, 1, 0, 1, 0, 1, 0, 1, -2, 1, 0]
        first = answers(SIXTY_NUMBERS)
        self.assertEqual(answers(other), alone)
        self.assertEqual(answers(SIXTY_NUMBERS), first)
        self.assertEqual(answers(SIXTY_NUMBERS), first)
        self.assertEqual(answers(other), alone)

    def test_without_a_begin_nothing_is_left_of_the_list_before(self):
        answers(SIXTY_NUMBERS)
        self.assertEqual(answers([34, 30, 33, 0]), [1, -11, 1, -11, 1, -11])

    def test_what_is_given_back_is_one_s_own(self):
        setting = numbers_of([("begin", 2), ("rule", 3, 1, 0, 9, 5), ("grant", 0, 1, 0, 5, 5, 9), ("chain", 0)])
        given = answers(setting)
        given.clear()
        self.assertEqual(answers(setting), [1, 0, 1, 0, 1, 0, 2, 1, 0])

    def test_what_is_told_is_not_what_is_kept(self):
        """The same told twice is the same, and what is told grows with what is kept alone."""
        calls = [("begin", 2), ("rule", 3, 1, 9, 9, 5), ("grant", 0, 1, 0, 5, 5, 9), ("hand", 0, 0, 5, 5, 9),
                 ("ask", 0, 0, 7, 5), ("use", 0, 1), ("do", 0)]
        for call in (("under", 0), ("chain", 1), ("log", 0), ("asked", 0), ("grantis", 1), ("ruleis", 0)):
            given = answered(calls + [call, call, ("hand", 1, 1, 5, 5, 9), ("use", 0, 1)])
            self.assertEqual(given[-4], given[-3])
            self.assertEqual(given[-2:], [2, -6])

    def test_the_largest_numbers_everywhere(self):
        for name, (_, length) in CALLS.items():
            due = {"begin": -22, "rule": -22, "tick": -22, "done": 0, "today": 0}.get(name, -2)
            self.assertEqual(answered([("begin", 8), ("rule", 1, 0, 0, 0, 1), (name,) + (BIG,) * length])[2], due, name)

    def test_the_largest_number_in_each_place(self):
        for name, (told, _, due) in FITTING.items():
            given = []
            for place in range(len(told)):
                row = last_row(SETTING + [(name, *told[:place], BIG, *told[place + 1:])])
                given.append(row[0])
                self.assertEqual(len(row), 1)
            self.assertEqual(given, due, name)

    def test_the_largest_numbers_are_told_as_they_are(self):
        calls = SETTING + [("ask", 1, 0, BIG, 1000000), ("grant", 1, 0, 0, 1000000, 1000000, BIG)]
        self.assertEqual(last_row(calls + [("asked", 2)]), [0, 1, BIG, 1000000, 0, 0, 0, 0])
        self.assertEqual(last_row(calls + [("grantis", 1)]), [0, 1, 0, 1000000, 1000000, BIG, 0, 0])


if __name__ == "__main__":
    unittest.main()
