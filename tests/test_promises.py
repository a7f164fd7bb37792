"""W1, W3 and W4 over random rows."""

import random
import unittest

from helper import entry, followed, load, run, some_formula, some_row, straight_follow, straight_judge, wait


def good_formula(chance):
    while True:
        formula = some_formula(chance, 2)
        if len(formula) < 600 and straight_judge(f"w:{formula};")[0] == 1:
            return formula


class Promises(unittest.TestCase):
    def same(self, chance, one, other):
        row = some_row(chance, 15)
        self.assertEqual(followed(f"w:{one};", row), followed(f"w:{other};", row), (one, other))

    def test_w1_entry_by_entry_is_the_whole_row(self):
        chance = random.Random(101)
        for _ in range(100):
            text = f"w:{good_formula(chance)};v:{good_formula(chance)};"
            if straight_judge(text) == [2]:
                row = some_row(chance, 30)
                self.assertEqual(followed(text, row), straight_follow(text, row), (text, row))

    def test_w3_waiting_takes_nothing(self):
        chance = random.Random(103)
        for _ in range(60):
            text = f"w:{good_formula(chance)};"
            row = some_row(chance, 12)
            calls = [load(text)]
            for moment, names in row:
                calls += [wait(moment + chance.randrange(9), chance.choice("abcd")), entry(moment, *names.split())]
            self.assertEqual([answer[0] for answer in run(*calls)[2::2]], followed(text, row))

    def test_w4_always_is_not_once_not(self):
        chance = random.Random(107)
        for _ in range(60):
            formula = good_formula(chance)
            self.same(chance, f"always ({formula})", f"not once not ({formula})")
            span = chance.randrange(9)
            self.same(chance, f"always within {span} ({formula})", f"not once within {span} not ({formula})")

    def test_w4_implies_is_not_or(self):
        chance = random.Random(109)
        for _ in range(60):
            one = good_formula(chance)
            other = good_formula(chance)
            if straight_judge(f"w:({one}) implies ({other});") == [1]:
                self.same(chance, f"({one}) implies ({other})", f"not ({one}) or ({other})")

    def test_w4_yes_since_is_once(self):
        chance = random.Random(113)
        for _ in range(60):
            formula = good_formula(chance)
            self.same(chance, f"yes since ({formula})", f"once ({formula})")
            span = chance.randrange(9)
            self.same(chance, f"yes since within {span} ({formula})", f"once within {span} ({formula})")


if __name__ == "__main__":
    unittest.main()
