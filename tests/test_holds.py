"""'What holds', on many lines that are drawn by a fixed rule, so that each run has the same ones."""

import unittest

from tests.lines import answered


class Draw:
    """Numbers that look drawn by lot, the same ones each time."""

    def __init__(self, seed):
        self.kept = seed

    def below(self, bound):
        self.kept = (self.kept * 6364136223846793005 + 1442695040888963407) % 2 ** 64
        return (self.kept >> 33) % bound

    def one_of(self, choices):
        return choices[self.below(len(choices))]


def a_call(draw):
    name = draw.one_of(
        ("ask", "ask", "ask", "yes", "yes", "yes", "yes", "yes", "use", "use", "use", "use", "use", "use", "do", "do", "do", "do",
         "grant", "grant", "hand", "hand", "change", "no", "withdraw", "revoke", "rule", "rerule"))
    amount = draw.below(5)
    told = {
        "ask": (draw.below(3), draw.below(8) // 6, 7, amount), "change": (draw.below(6), 7, amount),
        "yes": (draw.below(4), draw.below(6), 7, draw.below(5)), "no": (draw.below(4), draw.below(9)),
        "withdraw": (draw.below(9),), "use": (draw.below(4), draw.below(5)), "do": (draw.below(6),),
        "grant": (draw.below(4), draw.below(3), draw.below(8) // 6, 2 + draw.below(4), 2 + draw.below(8), draw.below(3)),
        "hand": (draw.below(5), draw.below(4), draw.below(5), draw.below(8), draw.below(2)),
        "revoke": (draw.below(8),),
        "rule": (draw.below(17), draw.below(4), draw.below(3), draw.below(20), 1 + draw.below(30)),
        "rerule": (draw.below(2), draw.below(17), draw.below(4), draw.below(3), draw.below(20), 1 + draw.below(30))}
    return (name,) + told[name]


def a_drawn_line(seed):
    draw = Draw(seed)
    calls = [("begin", 4), ("rule", 15, 1 + draw.below(2), draw.below(2), 8 + draw.below(20), 5),
             ("rule", draw.below(16), draw.below(3), draw.below(2), 8 + draw.below(20), 5)]
    # Something to speak of from the start, else most of a line is refused with -2.
    calls += [("ask", draw.below(2), 0, 7, 1 + draw.below(4)) for _ in range(4)]
    calls += [("grant", 2 + draw.below(2), draw.below(2), 0, 2 + draw.below(4), 2 + draw.below(8), 2) for _ in range(3)]
    calls += [("hand", 0, draw.below(2), 2, 2 + draw.below(2), draw.below(2))]
    return calls + [a_call(draw) for _ in range(60 - len(calls))]


def lines():
    return [a_drawn_line(seed) for seed in range(400)]


def last(calls, *call):
    return answered(calls + [call])[-1]


class WhatHolds(unittest.TestCase):
    def test_the_lines_are_worth_drawing(self):
        """They reach nearly all refusals, and most calls are answered without one, too."""
        seen = {}
        for calls in lines():
            for (name, *_), answer in zip(calls, answered(calls), strict=True):
                seen.setdefault(name, set()).add(answer)
        refusals = {
            "rule": {-22, -28}, "rerule": {-22}, "ask": {-28}, "change": {-2, -6},
            "yes": {-2, -6, -12, -13, -9, -17}, "no": {-2, -6, -13}, "withdraw": {-2, -6},
            "grant": {-12, -13}, "hand": {-2, -12, -14, -15}, "revoke": {-2, -17},
            "use": {-2, -6, -12, -22, -17}, "do": {-2, -6, -14, -13, -28}}
        for name, due in refusals.items():
            self.assertLessEqual(due, seen[name], name)
            self.assertTrue(any(answer >= 0 for answer in seen[name]), name)
        self.assertGreaterEqual(max(seen["do"]), 5)

    def test_what_is_refused_changes_nothing(self):
        for calls in lines():
            given = answered(calls)
            kept = [at for at in range(len(calls)) if given[at] >= 0]
            self.assertEqual(answered([calls[at] for at in kept]), [given[at] for at in kept])

    def test_could_tells_what_do_would_answer_and_changes_nothing(self):
        for calls in lines():
            asked_of = [call if call[0] != "do" else ("could", call[1]) for call in calls]
            told = []
            for call, other in zip(calls, asked_of, strict=True):
                told.extend([call] if call == other else [other, call])
            given = answered(told)
            for at, call in enumerate(told):
                if call[0] == "could":
                    self.assertEqual(given[at], min(given[at + 1], 0))
            self.assertEqual([answer for call, answer in zip(told, given) if call[0] != "could"], answered(calls))

    def test_telling_changes_nothing(self):
        for calls in lines()[:100]:
            told = []
            for at, call in enumerate(calls[:24]):
                told.append(call)
                if at > 0:
                    told.append((("could", "lacks", "counts", "maysay", "can")[at % 5], at % 4))
            self.assertEqual([answer for call, answer in zip(told, answered(told)) if call in calls],
                             answered(calls[:24]))

    def test_nothing_is_done_twice_nor_more_than_a_day_allows(self):
        for calls in lines():
            kinds, rules, asked, done, drawn = [], [], [], set(), {}
            for (name, *told), answer in zip(calls, answered(calls), strict=True):
                if answer < 0:
                    continue
                if name == "rule":
                    rules.append(told[3])
                elif name == "rerule":
                    rules[told[0]] = told[4]
                elif name == "ask":
                    kinds.append(told[1])
                    asked.append(told[3])
                elif name == "change":
                    asked[told[0]] = told[2]
                elif name == "do":
                    r = told[0]
                    self.assertNotIn(r, done)
                    done.add(r)
                    self.assertEqual(answer, len(done))
                    drawn[kinds[r]] = drawn.get(kinds[r], 0) + asked[r]
                    self.assertTrue(asked[r] == 0 or drawn[kinds[r]] <= rules[kinds[r]])

    def test_a_standing_yes_is_never_drawn_beyond_what_it_says(self):
        for calls in lines():
            given, uses, amounts, drawn, back = [], {}, [], {}, set()
            for (name, *told), answer in zip(calls, answered(calls), strict=True):
                if answer < 0:
                    continue
                if name == "grant":
                    given.append((told[3], told[4], [answer]))
                elif name == "hand":
                    given.append((told[2], told[3], [answer] + given[told[0]][2]))
                elif name == "revoke":
                    back.add(told[0])
                elif name == "ask":
                    amounts.append(told[3])
                elif name == "change":
                    amounts[told[0]] = told[2]
                    uses[told[0]] = []
                elif name == "use":
                    uses.setdefault(told[0], []).append(told[1])
                elif name == "do":
                    touched = {link for g in uses.get(told[0], []) for link in given[g][2]}
                    self.assertFalse(touched & back)
                    for g in touched:
                        drawn[g] = drawn.get(g, 0) + amounts[told[0]]
                        self.assertLessEqual(amounts[told[0]], given[g][0])
                        self.assertLessEqual(drawn[g], given[g][1])

    def test_a_deed_has_as_many_as_must_who_may_and_don_t_ask(self):
        for calls in lines()[:200]:
            rules, asked = [], []
            given = answered(calls)
            for at, (name, *told) in enumerate(calls):
                if given[at] < 0:
                    continue
                if name == "rule":
                    rules.append(told)
                elif name == "rerule":
                    rules[told[0]] = told[1:]
                elif name == "ask":
                    asked.append([told[0], told[1], told[3]])
                elif name == "change":
                    asked[told[0]][2] = told[2]
                elif name == "do":
                    person, kind, amount = asked[told[0]]
                    who = last(calls[:at], "counts", told[0])
                    self.assertEqual(who & ~rules[kind][0], 0)
                    self.assertEqual(who >> person & 1, 0)
                    self.assertTrue(amount <= rules[kind][2] or who.bit_count() >= rules[kind][1])
                    self.assertEqual(last(calls[:at], "lacks", told[0]), 0)
                    self.assertEqual(last(calls[:at], "can", told[0]), 1)

    def test_more_yeses_never_hinder(self):
        for calls in lines()[:100]:
            given = answered(calls)
            for at, (name, *told) in enumerate(calls):
                if name != "yes" or given[at] < 0:
                    continue
                before, after = calls[:at], calls[:at + 1]
                if last(before, "could", told[1]) == 0:
                    self.assertEqual(last(after, "could", told[1]), 0)
                self.assertLessEqual(last(after, "lacks", told[1]), last(before, "lacks", told[1]))
                self.assertEqual(last(after, "can", told[1]), last(before, "can", told[1]))
                self.assertEqual(last(before, "maysay", told[1]) - last(after, "maysay", told[1]), 1 << told[0])


if __name__ == "__main__":
    unittest.main()
