"""judge and load: the texts that are rules."""

import random
import unittest

from helper import judge, judged, load, run, some_rules, straight_judge


def watches(count):
    return "".join([f"w{i}:a;" for i in range(count)])


class Good(unittest.TestCase):
    def good(self, text, count=1):
        self.assertEqual(run(judge(text), load(text)), [[count], [count]], text)

    def test_how_many_watches(self):
        for count in range(1, 17):
            self.good(watches(count), count)

    def test_every_form(self):
        for formula in (
                "yes", "no", "a", "(a)", "((a))", "not a", "not not a", "before a", "before before a",
                "once a", "once within 0 a", "once within 4294967295 a", "once once a", "once within 1 once within 2 a",
                "always a", "always within 0 a", "always within 60 always a",
                "least 1 a", "least 64 a", "least 2 within 0 a", "least 2 within 10 least 3 a",
                "a since b", "a since within 7 b", "not a since not b", "once a since within 3 always within 2 b",
                "(a since b) since c", "a since (b since c)", "a since least 2 (b since c)",
                "a and b", "a and b and c", "a or b", "a or b or c", "a implies b", "a implies b implies c",
                "a since b and c since d or e since f implies g since h", "(a implies b) implies (c or d) and e",
                "not (a)", "once (a)", "least 3 (a or b)", "yes since no", "before yes or not no"):
            self.good("w:" + formula + ";")

    def test_blanks_and_line_ends(self):
        self.good("w:a;")
        self.good("   w:a;")
        self.good("w:a;   \n\n ")
        self.good("\n \nw\n:\n \n(\na )  and\nb\n; ")
        self.good("w :\nleast\n3\nwithin\n4\na\nsince\nwithin\n5\nb ;")

    def test_no_blanks_where_none_is_needed(self):
        self.good("w:(a)and(b)or(c)implies(not(a))since(b);")
        self.good("w:once(a)since within 5(b);v:least 3(a);", 2)
        self.good("w:always within 7(a)and least 2 within 3(before(b));")

    def test_names(self):
        for name in ("a", "z", "a_", "a1", "a__9z", "x" * 64, "nota", "no1", "yes_", "sinc", "withins", "within2",
                     "rules", "watch", "f", "name"):
            self.good(f"{name}: {name};")
            self.good(f"w: not {name};")

    def test_a_name_in_rules_may_be_a_watch_name(self):
        self.good("w: v; v: w and v;", 2)

    def test_names_that_begin_alike_are_different(self):
        self.good("w:a; w1:a; w_:a; ww:a;", 4)

    def test_longest_text(self):
        for text in ("w:a;" + " " * 4092, "\n" * 4092 + "w:a;", "w:" + " " * 4092 + "a;",
                     "w:" + "(a)or" * 100 + " " * 3592 + "a;"):
            self.good(text + " " * (4096 - len(text)))
            self.assertEqual(len(text) <= 4096, True)

    def test_too_long_text(self):
        for text in ("w:a;" + " " * 4093, "x" * 4097, "\0" * 4097, "", "w:a;"):
            text += " " * (4097 - len(text))
            self.assertEqual(run(judge(text), load(text)), [[-2], [-2]])
        self.assertEqual(judged("w:a;" + "?" * 14996), [-2])
        self.assertEqual(judged("x" * 4096), [-6, 4, 0])

    def test_as_a_straight_reading(self):
        chance = random.Random(11)
        for _ in range(150):
            text = some_rules(chance, 2)
            self.assertEqual(judged(text), straight_judge(text), text)


if __name__ == "__main__":
    unittest.main()
