"""'What holds', on many lines that are drawn by a fixed rule, so that each run has the same ones."""

import unittest

from tests.lines import answered


class Draw:
    """Numbers that look drawn by lot, the same ones each time."""

    def __init__(self, seed):
        self.kept = seed

    def below(self, bound):
        self.kept = (self.kept * 6364136223846793005 + 1442695040888963407) % 2 ** 64
        return (self.kept >> 33) % bound

    def one_of(self, choices):
        return choices[self.below(len(choices))]


NAMES = (
    ("ask",) * 3 + ("yes",) * 6 + ("use",) * 6 + ("do",) * 5 + ("grant",) * 2 + ("hand",) * 2
    + ("change", "no", "withdraw", "revoke", "rule", "rerule", "tick", "tick"))


def a_call(draw):
    name = draw.one_of(NAMES)
    amount = draw.below(5)
    told = {
        "ask": (draw.below(3), draw.below(8) // 6, 7, amount), "change": (draw.below(6), 7, amount),
        "yes": (draw.below(4), draw.below(6), 7, draw.below(5)), "no": (draw.below(4), draw.below(9)),
        "withdraw": (draw.below(9),), "use": (draw.below(4), draw.below(5)), "do": (draw.below(6),),
        "grant": (draw.below(4), draw.below(3), draw.below(8) // 6, 2 + draw.below(4), 2 + draw.below(8), draw.below(8)),
        "hand": (draw.below(5), draw.below(4), draw.below(5), draw.below(8), draw.below(6)),
        "revoke": (draw.below(8),),
        "rule": (draw.below(17), draw.below(4), draw.below(3), draw.below(20), 1 + draw.below(30)),
        "rerule": (draw.below(2), draw.below(17), draw.below(4), draw.below(3), draw.below(20), 1 + draw.below(5)),
        "tick": (draw.below(3),)}
    return (name,) + told[name]


def a_drawn_line(seed):
    draw = Draw(seed)
    calls = [("begin", 4), ("rule", 15, 1 + draw.below(2), draw.below(2), 5 + draw.below(20), 1 + draw.below(5)),
             ("rule", draw.below(16), draw.below(3), draw.below(2), 8 + draw.below(20), 1 + draw.below(5))]
    # Something to speak of from the start, else most of a line is refused with -2.
    calls += [("ask", r % 2, 0, 7, 1 + draw.below(4)) for r in range(4)]
    calls += [("grant", 2 + draw.below(2), g % 2, 0, 2 + draw.below(4), 2 + draw.below(8), 2 + draw.below(5))
              for g in range(3)]
    calls += [("hand", 0, 1, 2, 2 + draw.below(2), draw.below(4)), ("hand", draw.below(4), draw.below(2), 2, 2, 1)]
    for _ in range(4):
        r = draw.below(4)
        calls.append(("use", r, r % 2 + 2 * draw.below(2)))
    return calls + [a_call(draw) for _ in range(60 - len(calls))]


def lines():
    return [a_drawn_line(seed) for seed in range(400)]


def last(calls, *call):
    return answered(calls + [call])[-1]


class Kept:
    """What a line's calls that weren't refused have told, kept as simply as can be."""

    def __init__(self):
        self.day = 0
        self.rules = []
        self.asked = []
        self.given = []

    def take(self, name, told):
        if name == "tick":
            self.day += told[0]
        elif name == "rule":
            self.rules.append(told)
        elif name == "rerule":
            self.rules[told[0]] = told[1:]
        elif name == "ask":
            self.asked.append({"who": told[0], "kind": told[1], "amount": told[3], "day": self.day, "uses": [], "said": []})
        elif name == "change":
            self.asked[told[0]].update(amount=told[2], day=self.day, uses=[], said=[])
        elif name == "yes":
            self.asked[told[1]]["said"].append(told[0])
        elif name == "use":
            self.asked[told[0]]["uses"].append(told[1])
        elif name == "grant":
            row = {"root": told[0], "each": told[3], "total": told[4], "till": told[5], "back": False}
            self.given.append(dict(row, chain=[len(self.given)]))
        elif name == "hand":
            up = self.given[told[0]]
            row = {"root": up["root"], "each": told[2], "total": told[3], "till": told[4], "back": False}
            self.given.append(dict(row, chain=[len(self.given)] + up["chain"]))
        elif name == "revoke":
            self.given[told[0]]["back"] = True

    def used_with_all_above(self, r):
        return {link for g in self.asked[r]["uses"] for link in self.given[g]["chain"]}


def deeds(calls):
    """Each deed of a line: where its do stands, what's asked, and what was kept when it was done."""
    kept = Kept()
    for at, ((name, *told), answer) in enumerate(zip(calls, answered(calls), strict=True)):
        if answer < 0:
            continue
        if name == "do":
            yield at, told[0], kept
        kept.take(name, told)


class WhatHolds(unittest.TestCase):
    def test_the_lines_are_worth_drawing(self):
        """They reach nearly all refusals, and most calls are answered without one, too."""
        seen = {}
        for calls in lines():
            self.assertEqual(len(calls), 60)
            for (name, *_), answer in zip(calls, answered(calls), strict=True):
                seen.setdefault(name, set()).add(answer)
        refusals = {
            "rule": {-22, -28}, "rerule": {-22}, "ask": {-28}, "change": {-2, -6},
            "yes": {-2, -6, -8, -12, -13, -9, -17}, "no": {-2, -6, -13}, "withdraw": {-2, -6},
            "grant": {-22, -12, -13}, "hand": {-2, -12, -14, -15}, "revoke": {-2, -17},
            "use": {-2, -6, -12, -22, -17}, "do": {-2, -6, -8, -14, -13, -28}, "tick": {-22}}
        for name, due in refusals.items():
            self.assertLessEqual(due, seen[name], name)
            self.assertTrue(any(answer >= 0 for answer in seen[name]), name)
        self.assertGreaterEqual(max(seen["do"]), 4)

    def test_what_is_refused_changes_nothing(self):
        for calls in lines():
            given = answered(calls)
            kept = [at for at in range(len(calls)) if given[at] >= 0]
            self.assertEqual(answered([calls[at] for at in kept]), [given[at] for at in kept])

    def test_could_and_ifyes_tell_what_do_would_answer(self):
        for calls in lines()[:200]:
            for at, (name, *told) in enumerate(calls):
                if name == "do":
                    done, could, ifyes = [last(calls[:at], *call)
                                          for call in (("do", *told), ("could", *told), ("ifyes", *told, 0))]
                    self.assertEqual((could, ifyes), (min(done, 0), min(done, 0)))

    def test_telling_changes_nothing(self):
        telling = ("could", "lacks", "counts", "maysay", "can", "asked", "lives", "room", "root", "under", "chain",
                   "drawn", "grantis", "left", "ruleis", "log", "done", "today", "most", "sum_of", "ifyes")
        length = {"done": 0, "today": 0, "most": 2, "ifyes": 2, "sum_of": 3}
        for seed, calls in enumerate(lines()[:200]):
            told = []
            # From somewhere in the midst of a line on, where there's something to tell.
            begun = calls[:10 + seed % 20]
            rest = calls[len(begun):len(begun) + 15]
            for at, call in enumerate(rest):
                name = telling[(seed + at) % len(telling)]
                told.extend([(name,) + (at % 2, 0, 9)[:length.get(name, 1)], call])
            given = answered(begun + told)
            self.assertEqual(given[:len(begun)] + given[len(begun) + 1::2], answered(begun + rest))

    def test_nothing_is_done_twice_nor_once_too_old_nor_more_than_a_day_allows(self):
        for calls in lines():
            done, drawn = set(), {}
            for at, r, kept in deeds(calls):
                asked = kept.asked[r]
                self.assertNotIn(r, done)
                done.add(r)
                _, _, _, daily, lives = kept.rules[asked["kind"]]
                self.assertLessEqual(kept.day - asked["day"], lives)
                key = (asked["kind"], kept.day)
                drawn[key] = drawn.get(key, 0) + asked["amount"]
                self.assertTrue(asked["amount"] == 0 or drawn[key] <= daily)
                self.assertEqual(last(calls[:at + 1], "left", asked["kind"]), max(0, daily - drawn[key]))
                self.assertEqual(last(calls[:at + 1], "done"), len(done))

    def test_a_standing_yes_is_never_drawn_beyond_what_it_says(self):
        for calls in lines():
            drawn = {}
            for _, r, kept in deeds(calls):
                amount = kept.asked[r]["amount"]
                for g in kept.used_with_all_above(r):
                    given = kept.given[g]
                    drawn[g] = drawn.get(g, 0) + amount
                    self.assertFalse(given["back"])
                    self.assertLessEqual(kept.day, given["till"])
                    self.assertLessEqual(amount, given["each"])
                    self.assertLessEqual(drawn[g], given["total"])
            for g, total in drawn.items():
                self.assertEqual(last(calls, "drawn", g), total)

    def test_a_deed_has_as_many_as_must_who_may_and_don_t_ask(self):
        for calls in lines()[:200]:
            for number, (at, r, kept) in enumerate(deeds(calls)):
                asked = kept.asked[r]
                may, need, free, _, _ = kept.rules[asked["kind"]]
                people = set(asked["said"]) | {kept.given[g]["root"] for g in asked["uses"]}
                people = [person for person in people if may >> person & 1 and person != asked["who"]]
                self.assertTrue(asked["amount"] <= free or len(people) >= need)
                who = sum(1 << person for person in people)
                self.assertEqual(last(calls[:at], "counts", r), who)
                self.assertEqual(last(calls[:at], "lacks", r), 0)
                self.assertEqual(last(calls[:at], "can", r), 1)
                due = [r, kept.day, asked["kind"], asked["who"], 7, asked["amount"], who]
                self.assertEqual(last(calls, "log", number), due + [len(asked["uses"])] + asked["uses"])

    def test_what_s_told_of_the_whole_past_is_what_was_done(self):
        for calls in lines()[:200]:
            done = last(calls, "done")
            log = [last(calls, "log", i) for i in range(done + 1)]
            self.assertEqual(log.pop(), -2)
            today = last(calls, "today")
            for kind in range(2):
                for first, behind in ((0, today), (1, today), (0, 0), (today, today), (1, 2)):
                    due = sum(row[5] for row in log if row[2] == kind and first <= row[1] <= behind)
                    self.assertEqual(last(calls, "sum_of", kind, first, behind), due)

    def test_more_yeses_never_hinder(self):
        for calls in lines()[:100]:
            given = answered(calls)
            for at, (name, *told) in enumerate(calls):
                if name != "yes" or given[at] < 0:
                    continue
                before, after = calls[:at], calls[:at + 1]
                if last(before, "could", told[1]) == 0:
                    self.assertEqual(last(after, "could", told[1]), 0)
                self.assertEqual(last(before, "ifyes", told[1], 1 << told[0]), last(after, "could", told[1]))
                self.assertLessEqual(last(after, "lacks", told[1]), last(before, "lacks", told[1]))
                self.assertEqual(last(after, "can", told[1]), last(before, "can", told[1]))
                self.assertEqual(last(before, "maysay", told[1]) - last(after, "maysay", told[1]), 1 << told[0])

    def test_more_of_them_in_ifyes_never_hinder(self):
        for calls in lines()[:60]:
            calls = calls[:40]
            for r in range(3):
                found = [last(calls, "ifyes", r, people) for people in range(16)]
                for people in range(16):
                    for person in range(4):
                        if found[people] == 0:
                            self.assertEqual(found[people | 1 << person], 0)

    def test_handed_on_it_s_never_more(self):
        for calls in lines()[:100]:
            rows = [last(calls, "grantis", g) for g in range(10)]
            for g, row in enumerate(rows):
                if row == -2 or row[6] == 0:
                    continue
                up = row[6] - 1
                self.assertTrue(all(row[place] <= rows[up][place] for place in (3, 4, 5)))
                self.assertEqual((row[0], row[1]), (rows[up][0], rows[up][2]))
                self.assertLessEqual(last(calls, "room", g), last(calls, "room", up))
                self.assertLessEqual(last(calls, "lives", g), last(calls, "lives", up))
                self.assertEqual(last(calls, "root", g), last(calls, "root", up))
                chain = last(calls, "chain", up)
                self.assertEqual(last(calls, "chain", g), [chain[0] + 1, g] + chain[1:])
                for link in chain[1:] + [g]:
                    self.assertIn(g, last(calls, "under", link)[1:])


if __name__ == "__main__":
    unittest.main()
