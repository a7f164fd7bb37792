"""memory: one member for each once, always, before, since, least, as by the entries so far."""

import random
import unittest

from helper import (FARTHEST, entries, entry, forget, good_rules, judge, load, memory, remembered, run, some_row,
                    straight_memory, told, wait)

SPANS = ("", "within 0 ", "within 2 ", "within 4294967295 ")


class Members(unittest.TestCase):
    """Members of one word alone; {} is where its within may stand."""

    def member(self, formula, row, expected):
        for span in SPANS:
            text = "w:" + formula.replace("{}", span) + ";"
            self.assertEqual(remembered(text, row), [1] + expected, (text, row))
            self.assertEqual(straight_memory(text, row), [1] + expected, (text, row))

    def test_once(self):
        self.member("once {}a", [], [0])
        self.member("once {}a", [(4, ""), (5, "b")], [0])
        self.member("once {}a", [(4, "a")], [1, 4])
        self.member("once {}a", [(4, "a"), (7, "a"), (7, "b")], [1, 7])
        self.member("once {}a", [(4, "a"), (900, ""), (5000000000, "")], [1, 4])
        self.member("once {}a", [(0, "a"), (1, "")], [1, 0])
        self.member("once {}a", [(-3, "a"), (1, "")], [1, -3])
        self.member("once {}no", [(-3, "a"), (1, "")], [0])

    def test_always(self):
        self.member("always {}a", [], [0])
        self.member("always {}a", [(4, "a"), (5, "a b")], [0])
        self.member("always {}a", [(4, "")], [1, 4])
        self.member("always {}a", [(4, "b"), (6, ""), (7, "a")], [1, 6])
        self.member("always {}a", [(4, ""), (900, "a"), (5000000000, "a")], [1, 4])
        self.member("always {}a", [(0, ""), (1, "a")], [1, 0])
        self.member("always {}a", [(-3, "b"), (1, "a")], [1, -3])
        self.member("always {}yes", [(-3, "b"), (1, "a")], [0])

    def test_before(self):
        self.member("before a", [], [0])
        self.member("before a", [(4, "")], [0])
        self.member("before a", [(4, "a")], [1])
        self.member("before a", [(4, "a"), (4, "b")], [0])
        self.member("before a", [(4, ""), (5, "a")], [1])
        self.member("before not a", [], [0])
        self.member("before not a", [(0, "")], [1])
        self.member("before yes", [(-7, "")], [1])

    def test_since(self):
        self.member("a since {}b", [], [0])
        self.member("a since {}b", [(4, "a"), (5, "")], [0])
        self.member("a since {}b", [(4, "b")], [1, 4])
        self.member("a since {}b", [(4, "b"), (6, "a"), (900, "a")], [1, 4])
        self.member("a since {}b", [(4, "b"), (6, "a b"), (7, "a")], [1, 6])
        self.member("a since {}b", [(4, "b"), (6, "b"), (7, "a")], [1, 6])
        self.member("a since {}b", [(0, "b")], [1, 0])
        self.member("a since {}b", [(-3, "b"), (-1, "a"), (5000000000, "a")], [1, -3])

    def test_since_is_lost_where_f_fails(self):
        self.member("a since {}b", [(4, "b"), (6, "")], [0])
        self.member("a since {}b", [(4, "b"), (6, "a"), (7, ""), (8, "a")], [0])
        self.member("a since {}b", [(4, "b"), (6, ""), (7, "b"), (9, "a")], [1, 7])
        self.member("a since {}b", [(4, "b"), (4, ""), (4, "a")], [0])
        self.member("no since {}b", [(4, "b"), (4, "a")], [0])
        self.member("no since {}b", [(4, "b"), (5, "b")], [1, 5])

    def test_least(self):
        self.member("least 3 {}a", [], [0])
        self.member("least 3 {}a", [(4, ""), (5, "b")], [0])
        self.member("least 3 {}a", [(4, "a"), (5, "b")], [1, 4])
        self.member("least 3 {}a", [(4, "a"), (5, "b"), (6, "a")], [2, 4, 6])
        self.member("least 3 {}a", [(4, "a"), (6, "a"), (7, "a"), (8, "")], [3, 4, 6, 7])
        self.member("least 3 {}a", [(4, "a"), (6, "a"), (7, "a"), (9, "a")], [3, 6, 7, 9])
        self.member("least 3 {}a", [(moment, "a") for moment in range(50)], [3, 47, 48, 49])
        self.member("least 1 {}a", [(-4, "a"), (0, "a"), (7, "")], [1, 0])
        self.member("least 64 {}yes", [(moment, "") for moment in range(-10, 53)], [63] + list(range(-10, 53)))
        self.member("least 64 {}yes", [(moment, "") for moment in range(-10, 70)], [64] + list(range(6, 70)))

    def test_least_with_several_at_one_moment(self):
        self.member("least 3 {}a", [(4, "a")] * 2, [2, 4, 4])
        self.member("least 3 {}a", [(4, "a")] * 3, [3, 4, 4, 4])
        self.member("least 3 {}a", [(4, "a")] * 5 + [(9, "a")], [3, 4, 4, 9])
        self.member("least 3 {}a", [(0, "a"), (4, "a a"), (4, ""), (4, "a")], [3, 0, 4, 4])

    def test_what_lies_out_of_a_window_is_kept(self):
        self.member("least 2 {}a", [(4, "a"), (900, ""), (5000000000, "a"), (9999999999, "")], [2, 4, 5000000000])
        row = [(0, "a b"), (100, "b")]
        text = "w:once within 5 a; v:always within 5 not a; u:b since within 5 a; t:least 1 within 5 a;"
        self.assertEqual(run(load(text), *entries(row), memory(), wait(100, "b"))[-3:],
                         [[2], [4, 1, 0, 1, 0, 1, 0, 1, 0], [2]])

    def test_the_farthest_moments(self):
        self.member("once {}a", [(-FARTHEST, "a"), (0, "")], [1, -FARTHEST])
        self.member("least 2 {}a", [(-FARTHEST, "a"), (FARTHEST, "a")], [2, -FARTHEST, FARTHEST])


class Memory(unittest.TestCase):
    def memory(self, text, row, expected):
        self.assertEqual(remembered(text, row), expected, (text, row))
        self.assertEqual(straight_memory(text, row), expected, (text, row))

    def test_no_rules(self):
        self.assertEqual(run(memory()), [[-3]])
        self.assertEqual(run(judge("w:once a;"), memory(), load("w:once a"), memory())[1::2], [[-3], [-3]])
        self.assertEqual(run(memory(), load("w:once a;"), memory()), [[-3], [1], [1, 0]])

    def test_rules_without_members(self):
        for text in ("w:a;", "w:yes;", "w:not (a and b or c implies no);", "w:a;v:b;u:not c;", "once_:within2;"):
            self.memory(text, [], [0])
            self.memory(text, [(3, "a b"), (5, "c")], [0])

    def test_all_at_the_beginning(self):
        text = "w:once a; v:always a; u:before a; t:a since b; s:least 3 a;"
        self.memory(text, [], [5, 0, 0, 0, 0, 0])
        self.assertEqual(run(load(text), entry(3, "a", "b"), load(text), memory())[-1], [5, 0, 0, 0, 0, 0])
        self.assertEqual(run(load(text), entry(3, "a", "b"), load("w:once b;"), memory())[-1], [1, 0])

    def test_side_by_side(self):
        self.memory("w:once a or once b and once c;", [(1, "a"), (2, "b"), (3, "c")], [3, 1, 1, 1, 2, 1, 3])
        self.memory("w:once c implies once b implies once a;", [(1, "a"), (2, "b"), (3, "c")], [3, 1, 3, 1, 2, 1, 1])
        self.memory("w:least 2 a and before a and always a;", [(1, "a"), (2, ""), (3, "a")], [3, 2, 1, 3, 1, 1, 2])

    def test_over_all_watches(self):
        row = [(1, "a"), (2, "b"), (3, "c")]
        self.memory("w:once c; v:yes; u:least 2 a; t:before b; s:once b;", row, [4, 1, 3, 1, 1, 0, 1, 2])
        text = "".join([f"w{i}:once n{i};" for i in range(16)])
        row = [(i, f"n{i}") for i in range(16)]
        self.memory(text, row, [16] + [number for i in range(16) for number in (1, i)])

    def test_nested_the_outer_word_first(self):
        row = [(1, "a"), (2, "")]
        self.memory("w:once before a;", row, [2, 1, 2, 0])
        self.memory("w:before once a;", row, [2, 1, 1, 1])
        self.memory("w:least 2 always once a;", row, [3, 2, 1, 2, 0, 1, 1])
        self.memory("w:not (once (not (before a)));", row, [2, 1, 1, 0])
        self.memory("w:always (a or before a);", row + [(5, "")], [2, 1, 5, 0])

    def test_a_since_stands_where_its_word_does(self):
        row = [(1, "a"), (2, "b"), (3, "c")]
        self.memory("w:once a since once b;", row, [3, 1, 1, 1, 3, 1, 2])
        self.memory("w:(once a and before b) since least 1 c;", row, [4, 1, 1, 0, 1, 3, 1, 3])
        self.memory("w:(once a and before b) since least 3 c;", row, [4, 1, 1, 0, 0, 1, 3])
        self.memory("w:(b since once a) since (before c since a);", row, [5, 1, 3, 1, 1, 1, 1, 1, 0])
        self.memory("w:once a; v:yes since b; u:once c;", row, [3, 1, 1, 1, 2, 1, 3])

    def test_since_in_a_bracket_on_either_side(self):
        row = [(1, "a"), (2, "b"), (3, "c")]
        text = "w:(yes since a) since (yes since b);"
        self.memory(text, row, [3, 1, 1, 1, 3, 1, 2])
        self.memory("w:once (yes since a) and (yes since c);", row, [3, 1, 3, 1, 1, 1, 3])

    def test_the_count_is_of_members(self):
        row = [(moment, "a") for moment in range(9)]
        self.memory("w:least 5 a;", row, [1, 5, 4, 5, 6, 7, 8])
        self.memory("w:least 2 a; v:least 3 a; u:once a;", row, [3, 2, 7, 8, 3, 6, 7, 8, 1, 8])
        self.memory("w:before a or before b or before c;", row, [3, 1, 0, 0])

    def test_each_word_has_a_member_of_its_own(self):
        row = [(1, "a"), (5, "b")]
        self.memory("w:once a;v:once a;u:once within 1 a;", row, [3, 1, 1, 1, 1, 1, 1])
        self.memory("w:once within 2 once within 2 a;", row + [(6, "")], [2, 1, 1, 1, 1])

    def test_members_go_on_where_the_watch_is_settled(self):
        row = [(1, "a"), (2, "b"), (3, "c")]
        self.memory("w:no and once b;", row, [1, 1, 2])
        self.memory("w:yes or least 2 not c;", row, [1, 2, 1, 2])
        self.memory("w:no implies before c;", row, [1, 1])

    def test_it_changes_nothing(self):
        text = "w:once a; v:least 2 a; u:a since b; t:always a; s:before b;"
        row = [(1, "a"), (2, "b"), (2, "a"), (7, ""), (9, "a b")]
        calls = [load(text)]
        for call in entries(row):
            calls += [memory(), memory(), call]
        given = run(*calls)
        self.assertEqual(given[3::3], run(load(text), *entries(row))[1:])
        self.assertEqual(given[1::3], given[2::3])
        self.assertEqual(given[1::3], [straight_memory(text, row[:i]) for i in range(len(row))])

    def test_what_changes_nothing_of_it(self):
        text = "w:once a; v:least 2 a; u:a since b; t:always a; s:before b;"
        row = [(1, "b"), (2, "a")]
        expected = [5, 1, 2, 1, 2, 1, 1, 1, 1, 0]
        self.memory(text, row, expected)
        for call in (wait(5, "a", "b"), wait(2), wait(1, "b"), wait(FARTHEST + 1, "b"), entry(1, "b"),
                     entry(FARTHEST + 1, "a"), entry(-FARTHEST - 1, "a"), judge("w:once b;"), judge("?"),
                     load("w:once"), load(" " * 4097), told(), memory()):
            self.assertEqual(run(load(text), *entries(row), call, memory())[-1], expected, call)
        self.assertEqual(run(load(text), *entries(row), forget(), memory())[-1], [5, 0, 0, 0, 0, 0])

    def test_no_member_but_for_these_words(self):
        self.memory("w:(not a and b or c implies yes) and once (not (a or no));", [(3, "b")], [1, 1, 3])

    def test_the_largest(self):
        text = "w:" + "or ".join(["least 64 within 1 yes "] * 16) + ";"
        row = [(moment, "") for moment in range(70)]
        self.memory(text, row, [16] + ([64] + list(range(6, 70))) * 16)
        text = "w:" + "or ".join(["once a "] * 127) + ";"
        self.memory(text, [(4, "a"), (6, "")], [127] + [1, 4] * 127)
        text = "w:" + "once before " * 20 + "a;"
        row = [(moment, "a" if moment == 3 else "") for moment in range(30)]
        self.memory(text, row, straight_memory(text, row))

    def test_as_a_straight_reading(self):
        chance = random.Random(71)
        for _ in range(200):
            text = good_rules(chance, chance.randrange(4))
            row = some_row(chance, chance.randrange(1, 16))
            calls = [load(text), memory()]
            for call in entries(row):
                calls += [call, memory()]
            expected = [straight_memory(text, row[:i]) for i in range(len(row) + 1)]
            self.assertEqual(run(*calls)[1::2], expected, (text, row))


if __name__ == "__main__":
    unittest.main()
