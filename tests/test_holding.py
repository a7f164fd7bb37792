"""entry: what holds at an entry, row by row of the table."""

import random
import unittest

from helper import entry, followed, held, load, run, some_row, some_rules, straight_follow, straight_judge

ROW = [(0, "a"), (1, "b"), (2, ""), (5, "a b"), (5, ""), (5, "b"), (9, "a"), (20, "")]


class Table(unittest.TestCase):
    def holds(self, formula, expected, row=None):
        row = ROW if row is None else row
        self.assertEqual(held(formula, row), expected.replace(" ", ""), formula)
        self.assertEqual(followed(f"w:{formula};", row), straight_follow(f"w:{formula};", row), formula)

    def test_yes_no_and_names(self):
        self.holds("yes", "1111 1111")
        self.holds("no", "0000 0000")
        self.holds("a", "1001 0010")
        self.holds("b", "0101 0100")
        self.holds("c", "0000 0000")
        self.holds("((a))", "1001 0010")

    def test_not_and_or_implies(self):
        self.holds("not a", "0110 1101")
        self.holds("not not a", "1001 0010")
        self.holds("a and b", "0001 0000")
        self.holds("a or b", "1101 0110")
        self.holds("a implies b", "0111 1101")
        self.holds("a and b and yes", "0001 0000")
        self.holds("a or b or no", "1101 0110")

    def test_what_binds_first(self):
        row = [(i, " ".join(name for bit, name in enumerate("abcd") if i >> bit & 1)) for i in range(16)]
        for formula, meant in (
                ("not a and b", "(not a) and b"), ("not a since b", "(not a) since b"),
                ("once a and b", "(once a) and b"), ("a or b and c", "a or (b and c)"),
                ("a and b or c", "(a and b) or c"), ("a implies b or c", "a implies (b or c)"),
                ("a or b implies c", "(a or b) implies c"), ("a implies b implies c", "a implies (b implies c)"),
                ("a implies b implies c implies d", "a implies (b implies (c implies d))"),
                ("a since b and c", "(a since b) and c"), ("a and b since c", "a and (b since c)"),
                ("a or b since c and d", "a or ((b since c) and d)"), ("before a since b", "(before a) since b"),
                ("a since not b or c", "(a since (not b)) or c"), ("least 2 a or b", "(least 2 a) or b"),
                ("once not before a", "once (not (before a))"), ("always a implies b", "(always a) implies b")):
            self.assertEqual(held(formula, row), held(meant, row), formula)
            self.holds(formula, held(meant, row), row)
        self.assertNotEqual(held("a implies (b implies c)", row), held("(a implies b) implies c", row))
        self.assertNotEqual(held("not (a since b)", row), held("not a since b", row))

    def test_once(self):
        self.holds("once a", "1111 1111")
        self.holds("once b", "0111 1111")
        self.holds("once (a and b)", "0001 1111")
        self.holds("once c", "0000 0000")

    def test_once_within(self):
        self.holds("once within 0 a", "1001 1110")
        self.holds("once within 2 a", "1111 1110")
        self.holds("once within 3 b", "0111 1100")
        self.holds("once within 4 b", "0111 1110")
        self.holds("once within 10 a", "1111 1110")
        self.holds("once within 11 a", "1111 1111")

    def test_always(self):
        self.holds("always (a or b)", "1100 0000")
        self.holds("always a", "1000 0000")
        self.holds("always yes", "1111 1111")
        self.holds("always no", "0000 0000")

    def test_always_within(self):
        self.holds("always within 0 a", "1001 0010")
        self.holds("always within 2 (a or b)", "1101 0010")
        self.holds("always within 3 (a or b)", "1100 0010")
        self.holds("always within 4 (a or b)", "1100 0000")
        self.holds("always within 3 not a", "0000 0001")
        self.holds("always within 10 not a", "0000 0001")
        self.holds("always within 11 not a", "0000 0000")

    def test_before(self):
        self.holds("before a", "0100 1001")
        self.holds("before yes", "0111 1111")
        self.holds("before no", "0000 0000")
        self.holds("before not a", "0011 0110")
        self.holds("before before a", "0010 0100")
        self.holds("not before yes", "1000 0000")

    def test_since(self):
        row = [(0, "a"), (1, "b"), (3, "a"), (6, "a"), (6, ""), (7, "a"), (8, "a b"), (8, "b"), (12, "a")]
        self.holds("a since b", "0111 00111", row)
        self.holds("b since a", "1111 01111", row)
        self.holds("yes since b", "0111 11111", row)
        self.holds("no since b", "0100 00110", row)
        self.holds("a since no", "0000 00000", row)
        self.holds("a since yes", "1111 11111", row)

    def test_since_within(self):
        row = [(0, "a"), (1, "b"), (3, "a"), (6, "a"), (6, ""), (7, "a"), (8, "a b"), (8, "b"), (12, "a")]
        self.holds("a since within 0 b", "0100 00110", row)
        self.holds("a since within 2 b", "0110 00110", row)
        self.holds("a since within 4 b", "0110 00111", row)
        self.holds("a since within 5 b", "0111 00111", row)
        self.holds("a since within 3 b", "0110 00110", row)

    def test_since_looks_behind_j_not_at_it(self):
        self.holds("a since b", "111", [(0, "b"), (1, "a"), (2, "a")])
        self.holds("a since b", "100", [(0, "b"), (1, ""), (2, "a")])
        self.holds("a since b", "1101", [(0, "b"), (1, "a"), (2, ""), (3, "b")])

    def test_least(self):
        self.holds("least 1 a", "1111 1111")
        self.holds("least 2 a", "0001 1111")
        self.holds("least 3 a", "0000 0011")
        self.holds("least 4 a", "0000 0000")
        self.holds("least 64 yes", "0" * 63 + "11", [(0, "")] * 65)

    def test_least_within(self):
        self.holds("least 2 within 5 a", "0001 1110")
        self.holds("least 2 within 4 a", "0000 0010")
        self.holds("least 2 within 3 a", "0000 0000")
        self.holds("least 2 within 0 b", "0000 0100")
        self.holds("least 3 within 4 b", "0000 0100")
        self.holds("least 3 within 3 b", "0000 0000")
        self.holds("least 3 within 8 a", "0000 0000")
        self.holds("least 3 within 9 a", "0000 0010")

    def test_least_looks_at_the_latest_ones(self):
        row = [(0, "a"), (10, "a"), (11, "a"), (12, ""), (13, "a"), (20, ""), (20, "a")]
        self.holds("least 2 within 2 a", "0011100", row)
        self.holds("least 3 within 3 a", "0000100", row)

    def test_the_farthest_window(self):
        row = [(-5, "a"), (4294967290, ""), (4294967291, "")]
        self.holds("once within 4294967295 a", "110", row)
        self.holds("always within 4294967295 not a", "001", row)
        self.holds("yes since within 4294967295 a", "110", row)
        self.holds("least 1 within 4294967295 a", "110", row)

    def test_the_farthest_moments(self):
        row = [(-2 ** 53, "a"), (-2 ** 53 + 1, ""), (0, "a"), (2 ** 53 - 1, "a"), (2 ** 53, "")]
        self.holds("once within 1 a", "11111", row)
        self.holds("once within 0 a", "10110", row)
        self.holds("once a", "11111", row)
        self.holds("least 3 a", "00011", row)

    def test_several_entries_at_one_moment(self):
        row = [(7, "a"), (7, ""), (7, "b"), (7, "a"), (7, "")]
        self.holds("once within 0 a", "11111", row)
        self.holds("always within 0 a", "10000", row)
        self.holds("before a", "01001", row)
        self.holds("least 2 within 0 a", "00011", row)
        self.holds("not a since within 0 b", "00100", row)

    def test_nested(self):
        self.holds("once (before a)", "0111 1111")
        self.holds("once within 1 before b", "0010 1110")
        self.holds("before once within 2 a", "0111 1111")
        self.holds("always (a implies once b)", "0000 0000")
        self.holds("least 2 (once within 1 a)", "0111 1111")
        self.holds("(a since b) since (before a)", "0100 1111")
        self.holds("not once within 3 least 2 within 5 (a or b)", "1000 0001")

    def test_what_is_inside_goes_on_unseen(self):
        row = [(0, "a"), (1, "b"), (2, "c"), (3, "")]
        self.holds("c and once a", "0010", row)
        self.holds("c implies before b", "1111", row)
        self.holds("no and once a or once within 1 b", "0110", row)
        self.holds("(c or once a) and least 3 yes", "0011", row)

    def test_as_a_straight_reading(self):
        chance = random.Random(3)
        compared = 0
        while compared < 250:
            text = some_rules(chance, chance.randrange(4))
            if len(text) < 1500 and straight_judge(text)[0] > 0:
                row = some_row(chance, chance.randrange(1, 20))
                self.assertEqual(followed(text, row), straight_follow(text, row), (text, row))
                compared += 1


class Names(unittest.TestCase):
    def answers(self, text, *calls):
        return [answer[0] for answer in run(load(text), *calls)[1:]]

    def test_twice_is_once(self):
        self.assertEqual(self.answers("w:a;v:least 2 a;", entry(0, "a", "a", "b", "a"), entry(0, "a", "a")), [1, 3])

    def test_names_that_no_rule_has(self):
        others = ("", "b", "aa", "A", " a", "a ", "a\n", "a\0", "\0a", "\xe1", "a\x80", "?", "a?", "_", "yes", "w",
                  "x" * 65, "a" * 64, "\xff" * 300)
        self.assertEqual(self.answers("w:a;", *[entry(0, other) for other in others]), [0] * len(others))
        self.assertEqual(self.answers("w:a;", entry(0, *others), entry(0, *(others + ("a",)))), [0, 1])

    def test_a_name_is_just_that_name(self):
        for name in ("a", "z", "a_", "a0", "z9_x", "q" * 64, "qwertyuiopasdfghjklzxcvbnm_0123456789"):
            near = [name + "a", name + "_", name[:-1], name.upper(), name + " ", "x" + name]
            self.assertEqual(self.answers(f"w:{name};", entry(0, name), entry(0, *near)), [1, 0])

    def test_no_names_and_empty_names(self):
        self.assertEqual(self.answers("w:a;v:not a;u:yes;", entry(0), entry(0, ""), entry(0, "", "")), [6, 6, 6])

    def test_reserved_words_are_names_of_an_entry_too(self):
        self.assertEqual(self.answers("w:no;v:yes;", entry(0, "no"), entry(0, "yes", "not")), [2, 2])

    def test_a_watchs_name_is_not_told_by_the_watch(self):
        self.assertEqual(self.answers("w:yes;v:w;", entry(0), entry(0, "w")), [1, 3])

    def test_any_bytes(self):
        rows = [[byte] for byte in range(256)]
        self.assertEqual(self.answers("w:a;v:q;", entry(0, *rows), *[entry(0, row) for row in rows]),
                         [3] + [1 if byte == 97 else 2 if byte == 113 else 0 for byte in range(256)])

    def test_400_names_and_a_long_one(self):
        names = [f"n{i}" for i in range(400)]
        self.assertEqual(self.answers("w:n0;v:n399;u:n400;t:n199;", entry(0, *names), entry(0, *names[1:399])),
                         [11, 8])
        self.assertEqual(self.answers("w:a;", entry(0, "a" * 15000), entry(0, "a")), [0, 1])


class Bits(unittest.TestCase):
    def test_the_texts_order(self):
        names = [chr(ord("p") - i) for i in range(16)]
        text = "".join([f"{name}x:{name};" for name in names])
        row = [(0, name) for name in names] + [(0, " ".join(names)), (0, ""), (0, f"{names[2]} {names[15]}")]
        self.assertEqual(followed(text, row), [2 ** i for i in range(16)] + [65535, 0, 4 + 32768])

    def test_watches_remember_apart(self):
        text = "w:once a; v:once b; u:least 2 a; t:before b; s:a since b;"
        row = [(0, "a"), (1, "b"), (2, "a"), (3, "")]
        self.assertEqual(followed(text, row), [1, 1 + 2 + 16, 1 + 2 + 4 + 8 + 16, 1 + 2 + 4])


if __name__ == "__main__":
    unittest.main()
