"""W1 to W4 over random rows and random lists of calls."""

import copy
import random
import unittest

from helper import (FARTHEST, Whole, entries, entry, followed, forget, good_rules, judge, load, memory, remembered, run,
                    some_calls, some_formula, some_row, straight_follow, straight_judge, straight_memory, told, wait)


def good_formula(chance):
    while True:
        formula = some_formula(chance, 2)
        if len(formula) < 600 and straight_judge(f"w:{formula};")[0] == 1:
            return formula


def all_told(text, row):
    """Each entry's answer, and what told and memory answer behind it."""
    calls = [load(text)]
    for call in entries(row):
        calls += [call, told(), memory()]
    return run(*calls)[1:]


class EntryByEntry(unittest.TestCase):
    def test_w1_entry_by_entry_is_the_whole_row(self):
        chance = random.Random(101)
        for _ in range(100):
            text = f"w:{good_formula(chance)};v:{good_formula(chance)};"
            if straight_judge(text) == [2]:
                row = some_row(chance, 30)
                bits = straight_follow(text, row)
                self.assertEqual(followed(text, row), bits, (text, row))
                behind = run(load(text), *entries(row), told(), memory())[-2:]
                self.assertEqual(behind, [[0, 30, row[-1][0], bits[-1]], straight_memory(text, row)], (text, row))


class EnoughMemory(unittest.TestCase):
    """W2: with the same rules, last moment and memory all later answers are the same."""

    def later(self, chance, moment):
        calls = []
        for _ in range(12):
            moment += chance.choice([0, 0, 1, 2, 7])
            names = [name for name in "abcd" if chance.random() < 0.5]
            calls += [wait(moment + chance.randrange(9), chance.choice("abcd")), entry(moment, *names), memory()]
        return calls + [entry(moment - 1), entry(FARTHEST + 1), load("w:"), judge("w:a;"), memory(), forget(), memory()]

    def alike(self, chance, text, one, other):
        self.assertNotEqual(one, other)
        self.assertEqual(one[-1][0], other[-1][0])
        self.assertEqual(remembered(text, one), remembered(text, other))
        later = self.later(chance, one[-1][0])
        self.assertEqual(run(load(text), *entries(one), *later)[1 + len(one):],
                         run(load(text), *entries(other), *later)[1 + len(other):], (text, one, other))

    def test_w2_by_hand(self):
        chance = random.Random(131)
        for text, one, other in (
                ("w:once a; v:least 2 b;", [(0, "a"), (1, "b"), (3, "b"), (4, "b"), (4, "a")], [(3, "b"), (4, "a b")]),
                ("w:before a; v:before b;", [(0, "a b"), (5, ""), (9, "b")], [(9, "b c")]),
                ("w:a since within 4 b;", [(0, "b"), (1, ""), (2, "b"), (3, "a")], [(2, "b"), (3, "a d")]),
                ("w:a since b;", [(0, "b"), (3, "")], [(3, "a")]),
                ("w:always within 5 a;", [(0, ""), (2, "b"), (2, "a"), (6, "a")], [(2, ""), (6, "a")]),
                ("w:least 3 within 9 a;", [(0, "a")] * 7 + [(5, "")], [(0, "a")] * 3 + [(5, "b")]),
                ("w:once before a; v:a;", [(0, "a"), (1, ""), (2, "a"), (3, ""), (3, "b")],
                 [(2, "a"), (3, "b"), (3, "")])):
            for _ in range(5):
                self.alike(chance, text, one, other)

    def test_w2_with_any_rules(self):
        chance = random.Random(137)
        compared = 0
        for _ in range(60):
            text = good_rules(chance, 1)
            reached = {}
            for _ in range(40):
                row = some_row(chance, chance.randrange(1, 7))
                row = [(moment - row[-1][0], names) for moment, names in row]
                state = tuple(remembered(text, row))
                if reached.setdefault(state, row) != row:
                    self.alike(chance, text, reached[state], row)
                    compared += 1
        self.assertGreater(compared, 100)


class Nothing(unittest.TestCase):
    """W3: neither a wait nor a refusal changes any later answer."""

    def unchanged(self, calls, between):
        """The answers to calls are the same with those of between, one list for each place, put among them."""
        mixed = []
        places = []
        for call, others in zip(calls, between):
            places.append(len(mixed))
            mixed += [call] + others
        given = run(*mixed)
        self.assertEqual([given[place] for place in places], run(*calls), mixed)
        return [answer for place, answer in enumerate(given) if place not in places]

    def test_w3_waiting_takes_nothing(self):
        chance = random.Random(103)
        for _ in range(60):
            calls = some_calls(chance, 60)
            between = [[wait(chance.randrange(-30, 200), *chance.sample("abcd", chance.randrange(5)))
                        for _ in range(chance.randrange(3))] for call in calls]
            self.unchanged(calls, between)

    def test_w3_behind_every_call(self):
        text = "w:once a; v:always a; u:before a; t:a since b; s:least 2 a;"
        calls = [told(), memory(), load(text), told(), memory(), entry(3, "b"), told(), memory(), entry(4, "a"), told(),
                 memory(), forget(), told(), memory(), entry(1), memory(), load(text), memory(), told()]
        for call in (wait(50, "a"), wait(50), wait(4, "a", "b"), wait(-50, "a")):
            self.unchanged(calls, [[call]] * len(calls))

    def test_no_refusal_changes_a_later_answer(self):
        chance = random.Random(139)
        refusals = [entry(-FARTHEST, "a", "b"), entry(FARTHEST + 1, "a"), entry(-FARTHEST - 1), wait(-FARTHEST, "a"),
                    wait(FARTHEST + 1, "b"), entry(10 ** 18, "a"), load(""), load("w:once a"), load("w:a;w:a;"),
                    load("w:" + "(" * 41), judge("w:"), told(), memory(), forget(), entry(0, "a"), wait(0)]
        long_ones = [load(" " * 4097), load("w:" + "a or " * 300 + "a;")]
        met = {}
        for _ in range(60):
            calls = some_calls(chance, 40)
            whole = Whole()
            between = []
            for call in calls:
                whole.answer(call)
                others = chance.sample(refusals, 5)
                between.append([other for other in others if copy.copy(whole).answer(other)[0] < 0])
            between[chance.randrange(len(calls))] += long_ones
            for answer in self.unchanged(calls, between):
                self.assertLess(answer[0], 0)
                met[answer[0]] = True
        self.assertEqual(sorted(met), [-6, -5, -3, -2, -1])


class Alike(unittest.TestCase):
    """W4: the words that say the same keep and tell the same, too."""

    def same(self, chance, one, other):
        row = some_row(chance, 15)
        self.assertEqual(all_told(f"w:{one};", row), all_told(f"w:{other};", row), (one, other))

    def test_w4_always_is_not_once_not(self):
        chance = random.Random(107)
        for _ in range(60):
            formula = good_formula(chance)
            self.same(chance, f"always ({formula})", f"not once not ({formula})")
            span = chance.randrange(9)
            self.same(chance, f"always within {span} ({formula})", f"not once within {span} not ({formula})")

    def test_w4_implies_is_not_or(self):
        chance = random.Random(109)
        for _ in range(60):
            one = good_formula(chance)
            other = good_formula(chance)
            if straight_judge(f"w:({one}) implies ({other});") == [1]:
                self.same(chance, f"({one}) implies ({other})", f"not ({one}) or ({other})")

    def test_w4_yes_since_is_once(self):
        chance = random.Random(113)
        for _ in range(60):
            formula = good_formula(chance)
            self.same(chance, f"yes since ({formula})", f"once ({formula})")
            span = chance.randrange(9)
            self.same(chance, f"yes since within {span} ({formula})", f"once within {span} ({formula})")


if __name__ == "__main__":
    unittest.main()
