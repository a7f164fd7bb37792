"""forget: the rules stay, all else is as behind load."""

import random
import unittest

from helper import FARTHEST, entries, entry, forget, good_rules, judge, load, memory, run, some_row, told, wait

TEXT = "w:once a; v:always b; u:before a; t:b since a; s:least 2 a;"


class Forget(unittest.TestCase):
    def test_no_rules(self):
        self.assertEqual(run(forget()), [[-3]])
        self.assertEqual(run(judge(TEXT), forget(), load("w:"), forget()), [[5], [-3], [-6, 1, 2], [-3]])
        self.assertEqual(run(forget(), load("w:a;"), entry(0, "a"))[1:], [[1], [1]])
        self.assertEqual(run(forget(), entry(0), told(), memory()), [[-3]] * 4)

    def test_its_answer(self):
        self.assertEqual(run(load(TEXT), forget(), forget(), entry(0), forget())[1:], [[0], [0], [0], [0]])

    def test_all_else_is_as_behind_load(self):
        behind = [told(), memory(), wait(-5), entry(-5), told(), memory(), entry(-4, "a", "b"), memory(), entry(-6)]
        fresh = run(load(TEXT), *behind)[1:]
        self.assertEqual(fresh[:2], [[0, 0], [5, 0, 0, 0, 0, 0]])
        self.assertEqual(fresh[-1], [-5])
        for row in ([], [(10, "a b")], [(10, "a"), (10, "a"), (12, "a b")], [(0, ""), (3, "b")], [(FARTHEST, "a")]):
            forgot = run(load(TEXT), *entries(row), forget(), *behind)
            self.assertEqual(forgot[len(row) + 2:], fresh, row)
            twice = run(load(TEXT), *entries(row), forget(), *entries(row), forget(), *behind)
            self.assertEqual(twice[2 * len(row) + 3:], fresh, row)

    def test_an_earlier_moment_may_come_again(self):
        self.assertEqual(run(load("w:a;"), entry(9), entry(8), forget(), wait(8), entry(8), entry(-FARTHEST), forget(),
                             entry(-FARTHEST)), [[1], [0], [-5], [0], [0], [0], [-5], [0], [0]])

    def test_the_rules_stay(self):
        self.assertEqual(run(load("w:a;v:b;"), forget(), entry(0, "b")), [[2], [0], [2]])
        self.assertEqual(run(load("w:a;v:b;"), load("w:b;"), forget(), entry(0, "b")), [[2], [1], [0], [1]])
        self.assertEqual(run(load("w:b;"), judge("w:a;"), load("w:"), forget(), entry(0, "b")),
                         [[1], [1], [-6, 1, 2], [0], [1]])

    def test_as_behind_load_with_any_rules(self):
        chance = random.Random(61)
        for _ in range(60):
            text = good_rules(chance)
            row = some_row(chance, chance.randrange(10))
            later = [told(), memory()]
            for call in entries(some_row(chance, 8)):
                later += [[4] + call[1:], call, told(), memory()]
            forgot = run(load(text), *entries(row), forget(), *later)[len(row) + 2:]
            self.assertEqual(forgot, run(load(text), *later)[1:], (text, row))


if __name__ == "__main__":
    unittest.main()
