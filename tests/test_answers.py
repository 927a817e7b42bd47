"""The interface: how calls lie in the list that's handed in, and answers in the one given back."""

import unittest

from justthisdeed.desk import answers
from tests.lines import BIG, CALLS, answered, numbers_of

SIXTY = [
    ("rule", 7, 1, 0, 9, 5), ("begin", 4), ("begin", 0), ("rule", 15, 2, 5, 100, 3), ("rule", 3, 1, 0, 20, 30),
    ("rule", 16, 1, 0, 20, 30), ("rerule", 1, 6, 1, 2, 20, 30), ("rerule", 2, 6, 1, 2, 20, 30),
    ("ask", 0, 0, 7, 40), ("ask", 3, 1, BIG, 20), ("ask", 1, 0, 0, 0), ("ask", 4, 0, 7, 1), ("ask", 2, 1, 9, 1000001),
    ("yes", 0, 0, 7, 40), ("yes", 1, 0, 7, 40), ("yes", 1, 0, 7, 40), ("yes", 2, 0, 7, 41), ("yes", 2, 1, BIG, 20),
    ("lacks", 0), ("counts", 0), ("maysay", 0), ("can", 0), ("could", 0), ("do", 0),
    ("grant", 2, 0, 0, 40, 60, 0), ("grant", 2, 2, 0, 40, 60, 0), ("grant", 2, 0, 2, 40, 60, 0),
    ("grant", 0, 3, 1, 40, 60, 0), ("hand", 0, 3, 40, 50, 0), ("hand", 1, 0, 41, 50, 0), ("hand", 1, 3, 1, 1, 0),
    ("hand", 1, 0, 40, 45, 0), ("use", 0, 2), ("use", 0, 0), ("use", 0, 0), ("use", 1, 0), ("counts", 0), ("lacks", 0),
    ("can", 0), ("could", 0), ("do", 0), ("do", 0), ("could", 0), ("ask", 0, 0, 8, 6), ("use", 3, 2), ("lacks", 3),
    ("do", 3), ("change", 3, 8, 5), ("maysay", 3), ("do", 3), ("do", 1), ("do", 2), ("no", 0, 1), ("no", 1, 2),
    ("withdraw", 1), ("revoke", 1), ("revoke", 1), ("revoke", 0), ("withdraw", 0), ("can", 2)]

SIXTY_ANSWERS = [
    -11, 0, -22, 0, 1,
    -22, 0, -2,
    0, 1, 2, -2, -22,
    -12, 1, -17, -9, 1,
    1, 2, 12, 1, -13, -13,
    0, -12, -2,
    -13, 1, -15, -12,
    2, 1, 2, -17, -12, 6, 0,
    1, 0, 1, -6, -6, 3, 1, 2,
    -14, 0, 14, 2, 3, 4, -6, -6,
    -6, 2, -17, 1, -6, 0]


class Answers(unittest.TestCase):
    def test_sixty_calls(self):
        self.assertEqual(len(SIXTY), 60)
        for at, (call, given, due) in enumerate(zip(SIXTY, answered(SIXTY), SIXTY_ANSWERS, strict=True)):
            self.assertEqual(given, due, f"call {at}, {call}")

    def test_the_longest_list(self):
        calls = [("begin", 8), ("rule", 255, 0, 0, 9, 5)] + [("grant", 0, 1, 0, 5, 5, 9)] * 58
        self.assertEqual(answered(calls), [0, 0, *range(10)] + [-28] * 48)

    def test_one_call(self):
        self.assertEqual(answers([0, 8]), [1, 0])
        self.assertEqual(answers([0, 9]), [1, -22])
        self.assertEqual(answers([12, 0]), [1, -11])

    def test_each_call_by_its_number(self):
        setting = [0, 3, 1, 7, 1, 0, 50, 5, 3, 0, 0, 7, 10, 8, 1, 0, 0, 20, 30, 0]
        behind = [
            (1, 3, 0, 0, 0, 1), (2, 0, 7, 2, 0, 50, 5), (3, 2, 0, 7, 5), (4, 0, 1, 2), (5, 1, 0, 7, 10), (6, 1, 0),
            (7, 0), (8, 1, 0, 0, 1, 1, 1), (9, 0, 2, 20, 30, 0), (10, 0), (11, 0, 0), (12, 0), (13, 0), (14, 0),
            (15, 0), (16, 0), (17, 0)]
        due = [1, 0, 1, 0, 1, 0, 0, 1, 1, 1, 1, -13, -13, 1, 0, 6, 1]
        for call, answer in zip(behind, due, strict=True):
            self.assertEqual(answers(setting + list(call)), [1, 0, 1, 0, 1, 0, 1, 0, 1, answer], call)

    def test_whole_numbers_in_a_list(self):
        given = answers(numbers_of(SIXTY))
        self.assertIs(type(given), list)
        self.assertEqual({type(number) for number in given}, {int})

    def test_what_is_handed_in_stays(self):
        calls = numbers_of(SIXTY)
        before = list(calls)
        answers(calls)
        self.assertEqual(calls, before)

    def test_it_isn_t_changed_for_a_while_either(self):
        class Still(list):
            def refuse(self, *told):
                raise AssertionError("what is handed in is changed")
            __setitem__ = __delitem__ = __iadd__ = append = extend = insert = pop = remove = refuse
            clear = reverse = sort = refuse
        self.assertEqual(answers(Still(numbers_of(SIXTY)))[1::2], SIXTY_ANSWERS)

    def test_nothing_is_kept(self):
        first = numbers_of(SIXTY)
        other = numbers_of([("rule", 1, 0, 0, 0, 1), ("begin", 2), ("ask", 0, 0, 7, 5), ("rule", 3, 1, 0, 0, 1)])
        alone = (answers(first), answers(other))
        self.assertEqual((answers(other), answers(first)), (alone[1], alone[0]))
        self.assertEqual(answers(other), [1, -11, 1, 0, 1, -2, 1, 0])

    def test_what_is_given_back_is_one_s_own(self):
        given = answers([0, 1])
        given.append(5)
        self.assertEqual(answers([0, 1]), [1, 0])

    def test_the_largest_numbers_everywhere(self):
        for name, (_, length) in CALLS.items():
            due = -2 if name not in ("begin", "rule") else -22
            self.assertEqual(answered([("begin", 8), ("rule", 1, 0, 0, 0, 1), (name,) + (BIG,) * length])[2], due, name)

    def test_the_largest_number_in_each_place(self):
        calls = [("begin", 3), ("rule", 7, 0, 9, 50, 5), ("ask", 0, 0, 7, 5), ("grant", 1, 0, 0, 20, 30, 4)]
        fitting = {
            "begin": [3], "rule": [7, 1, 0, 50, 5], "rerule": [0, 7, 1, 0, 50, 5], "ask": [1, 0, 7, 5],
            "change": [0, 7, 5], "yes": [1, 0, 7, 5], "no": [1, 0], "withdraw": [0], "grant": [1, 0, 0, 5, 5, 5],
            "hand": [0, 2, 20, 30, 4], "revoke": [0], "use": [0, 0], "do": [0], "could": [0], "lacks": [0],
            "counts": [0], "maysay": [0], "can": [0]}
        due = {
            "begin": [-22], "rule": [-22] * 5, "rerule": [-2] + [-22] * 5, "ask": [-2, -2, 1, -22],
            "change": [-2, 0, -22], "yes": [-2, -2, -9, -9], "no": [-2, -2], "withdraw": [-2],
            "grant": [-2, -2, -2, -22, -22, 1], "hand": [-2, -2, -15, -15, -15], "revoke": [-2], "use": [-2, -2],
            "do": [-2], "could": [-2], "lacks": [-2], "counts": [-2], "maysay": [-2], "can": [-2]}
        for name, told in fitting.items():
            given = []
            for place in range(len(told)):
                given.append(answered(calls + [(name, *told[:place], BIG, *told[place + 1:])])[-1])
            self.assertEqual(given, due[name], name)


if __name__ == "__main__":
    unittest.main()
