"""load, entry and wait: what the object is behind each call, and what it refuses."""

import random
import unittest

from helper import FARTHEST, entry, judge, load, row_of, run, some_row, some_rules, straight_judge, wait
from pastwatch.watcher import Watcher

TEXT = "w:once a; v:always within 5 b; u:before a; t:a since within 9 b; s:least 3 a; r:least 2 within 4 b;"
FULL = 1000000


def parts_of(watcher):
    return (watcher.rules, list(watcher.memory), watcher.entries, watcher.last, watcher.answer)


def loaded(text):
    watcher = Watcher()
    watcher.load(row_of(text))
    return watcher


class Load(unittest.TestCase):
    def test_answers_as_judge(self):
        for text in ("w:a;", "", "w:a;v:b;", "w:a", "?", "w:a;w:a;", "x" * 4097, "w:" + "(" * 41,
                     "w:" + "or ".join(["a "] * 256) + ";"):
            judged, loading = run(judge(text), load(text))
            self.assertEqual(judged, loading)
            self.assertEqual(judged, straight_judge(text))

    def test_a_new_object_has_no_rules(self):
        self.assertEqual(run(entry(0), wait(0), entry(0, "a")), [[-3], [-3], [-3]])

    def test_judge_loads_nothing(self):
        self.assertEqual(run(judge("w:yes;"), entry(0)), [[1], [-3]])
        self.assertEqual(run(load("w:yes;"), judge("w:no;v:no;"), judge("?"), entry(0)),
                         [[1], [2], [-6, 2, 0], [1]])

    def test_the_rules_are_the_new_ones(self):
        self.assertEqual(run(load("w:a;"), entry(0, "a"), load("w:b;v:a;"), entry(0, "a"), entry(0, "b")),
                         [[1], [1], [2], [2], [1]])

    def test_no_entry_so_far(self):
        text = "w:once a; v:before yes; u:yes since a; t:least 1 a; s:always not a;"
        self.assertEqual(run(load(text), entry(10, "a"), entry(10), load(text), wait(-5), entry(-5), entry(-6)),
                         [[5], [13], [15], [5], [16], [16], [-5]])

    def test_a_refused_one_leaves_all(self):
        refused = ("", "w:a", "w:?;", "w:a;w:b;", "w:" + "(" * 41, "w:" + "or ".join(["a "] * 256) + ";", " " * 4097)
        for text in refused:
            self.assertEqual(run(load(text), entry(0))[1], [-3])
            self.assertEqual(run(load("w:once a;v:before a;"), entry(5, "a"), load(text), entry(4), entry(5))[3:],
                             [[-5], [3]])

    def test_a_refused_one_at_the_object(self):
        watcher = loaded(TEXT)
        watcher.entry(3, [row_of("a"), row_of("b")])
        earlier = parts_of(watcher)
        for text in ("", "w:a", "w:least 65 a;", " " * 5000):
            self.assertLess(watcher.load(row_of(text))[0], 0)
            self.assertEqual(parts_of(watcher), earlier)


class Refusals(unittest.TestCase):
    def test_moments_out_of_bounds(self):
        for call in (entry, wait):
            for moment in (-FARTHEST - 1, FARTHEST + 1, 10 ** 18, -10 ** 18):
                self.assertEqual(run(load("w:yes;"), call(moment)), [[1], [-1]])
            for moment in (-FARTHEST, -FARTHEST + 1, -1, 0, 1, FARTHEST - 1, FARTHEST):
                self.assertEqual(run(load("w:yes;"), call(moment)), [[1], [1]])

    def test_a_moment_before_the_last(self):
        for call in (entry, wait):
            self.assertEqual(run(load("w:yes;"), entry(7), call(6), call(7), call(8)), [[1], [1], [-5], [1], [1]])
            self.assertEqual(run(load("w:yes;"), entry(-7), call(-8), call(-7)), [[1], [1], [-5], [1]])
            self.assertEqual(run(load("w:yes;"), entry(FARTHEST), call(FARTHEST - 1), call(FARTHEST)),
                             [[1], [1], [-5], [1]])
            self.assertEqual(run(load("w:yes;"), call(-FARTHEST)), [[1], [1]])

    def test_no_rules_ahead_of_the_moment(self):
        for call in (entry, wait):
            self.assertEqual(run(call(FARTHEST + 1)), [[-3]])
            self.assertEqual(run(call(-FARTHEST - 1)), [[-3]])

    def test_bounds_ahead_of_the_last_moment(self):
        for call in (entry, wait):
            self.assertEqual(run(load("w:yes;"), entry(0), call(-FARTHEST - 1), call(-FARTHEST)),
                             [[1], [1], [-1], [-5]])

    def test_a_million_entries(self):
        watcher = loaded("w:before a; v:least 64 yes;")
        name = row_of("a")
        for moment in range(FULL - 1):
            watcher.entry(moment, [])
        self.assertEqual(watcher.wait(FULL, []), [2])
        self.assertEqual(watcher.entry(FULL, [name]), [2])
        earlier = parts_of(watcher)
        for moment in (FULL, FULL + 1, FARTHEST):
            self.assertEqual(watcher.wait(moment, []), [-7])
            self.assertEqual(watcher.entry(moment, []), [-7])
        self.assertEqual(watcher.entry(FULL - 1, []), [-5])
        self.assertEqual(watcher.wait(FULL - 1, []), [-5])
        self.assertEqual(watcher.entry(FARTHEST + 1, []), [-1])
        self.assertEqual(watcher.wait(-FARTHEST - 1, []), [-1])
        self.assertEqual(parts_of(watcher), earlier)
        self.assertEqual(watcher.told(), [0, FULL, FULL, 2])
        self.assertEqual(watcher.tell_memory(), [2, 1, 64] + list(range(FULL - 64, FULL - 1)) + [FULL])
        self.assertEqual(watcher.load(row_of("w:a")), [-6, 1, 3])
        self.assertEqual(watcher.entry(FULL, []), [-7])
        for anew, answer in ((watcher.forget, [0]), (lambda: watcher.load(row_of("w:before a;")), [1])):
            watcher.entries = FULL
            self.assertEqual(watcher.entry(FULL, []), [-7])
            self.assertEqual(anew(), answer)
            self.assertEqual(watcher.told(), [0, 0])
            self.assertEqual(watcher.entry(0, [name]), [0])
            self.assertEqual(watcher.told(), [0, 1, 0, 0])

    def test_a_refusal_takes_nothing(self):
        calls = [entry(0, "a"), entry(4, "b"), entry(4, "a", "b"), entry(6, "a"), entry(11, "b"), entry(30)]
        alone = run(load(TEXT), *calls)
        between = [load(TEXT)]
        for call in calls:
            between += [call, entry(-1, "a", "b"), entry(FARTHEST + 1, "a"), entry(-FARTHEST - 1, "b")]
        self.assertEqual(run(*between)[1::4], alone[1:])
        self.assertEqual(run(*between)[2::4], [[-5]] * len(calls))
        self.assertEqual(run(*between)[3::4], [[-1]] * len(calls))

    def test_a_refusal_at_the_object(self):
        watcher = loaded(TEXT)
        watcher.entry(3, [row_of("a")])
        earlier = parts_of(watcher)
        for moment, answer in ((2, -5), (FARTHEST + 1, -1), (-FARTHEST - 1, -1)):
            self.assertEqual(watcher.entry(moment, [row_of("b")]), [answer])
            self.assertEqual(watcher.wait(moment, [row_of("b")]), [answer])
            self.assertEqual(parts_of(watcher), earlier)


class Wait(unittest.TestCase):
    def test_the_same_answers(self):
        chance = random.Random(23)
        compared = 0
        while compared < 60:
            text = some_rules(chance, 2)
            if len(text) < 1500 and straight_judge(text)[0] > 0:
                calls = [load(text)]
                for moment, names in some_row(chance, 12):
                    calls += [wait(moment, *names.split()), entry(moment, *names.split())]
                told = run(*calls)[1:]
                self.assertEqual(told[0::2], told[1::2], text)
                compared += 1

    def test_nothing_is_taken(self):
        calls = [entry(0, "a"), entry(4, "b"), entry(4, "a", "b"), entry(6, "a"), entry(11, "b"), entry(30)]
        waited = [load(TEXT)]
        for call in calls:
            waited += [wait(50, "a", "b"), wait(50), wait(FARTHEST, "a"), call]
        self.assertEqual(run(*waited)[4::4], run(load(TEXT), *calls)[1:])

    def test_nothing_is_taken_at_the_object(self):
        watcher = loaded(TEXT)
        for moment in (None, 3, 4):
            if moment is not None:
                watcher.entry(moment, [row_of("a")])
            earlier = parts_of(watcher)
            for names in ([], ["a"], ["b"], ["a", "b", "c"]):
                watcher.wait(7, [row_of(name) for name in names])
                self.assertEqual(parts_of(watcher), earlier)


class Telling(unittest.TestCase):
    def test_nothing_changes_at_the_object(self):
        watcher = loaded(TEXT)
        for moment in (None, 3, 4):
            if moment is not None:
                watcher.entry(moment, [row_of("a"), row_of("b")])
            earlier = parts_of(watcher)
            for tell in (watcher.told, watcher.tell_memory):
                tell().append(7)
                self.assertEqual(parts_of(watcher), earlier)

    def test_refused_without_rules(self):
        watcher = Watcher()
        earlier = parts_of(watcher)
        for call in (watcher.told, watcher.tell_memory, watcher.forget):
            self.assertEqual(call(), [-3])
            self.assertEqual(parts_of(watcher), earlier)

    def test_forget_is_as_behind_load(self):
        watcher = loaded(TEXT)
        earlier = parts_of(watcher)
        watcher.entry(3, [row_of("a"), row_of("b")])
        self.assertNotEqual(parts_of(watcher), earlier)
        self.assertEqual(watcher.forget(), [0])
        self.assertEqual(parts_of(watcher), earlier)


class Memory(unittest.TestCase):
    def test_its_beginning(self):
        watcher = loaded("w:once before a since always least 2 b;")
        self.assertEqual(watcher.memory, [None, False, None, None, ()])
        watcher.entry(5, [row_of("a"), row_of("b")])
        self.assertEqual(watcher.memory, [None, True, None, 5, (5,)])
        watcher.load(row_of("w:once before a since always least 2 b;"))
        self.assertEqual(watcher.memory, [None, False, None, None, ()])

    def size(self, watcher):
        return sum([len(member) if isinstance(member, tuple) else 1 for member in watcher.memory])

    def test_it_does_not_grow(self):
        text = TEXT + "q:" + "or ".join(["least 64 within 1 yes "] * 15) + ";p:yes since (a or least 40 b);"
        watcher = loaded(text)
        names = [row_of("a"), row_of("b")]
        for moment in range(200):
            watcher.entry(moment, names)
        full = self.size(watcher)
        self.assertEqual(full, 1 + 1 + 1 + 1 + 3 + 2 + 15 * 64 + 1 + 40)
        for moment in range(200, 2000):
            watcher.entry(moment, names)
            self.assertEqual(self.size(watcher), full)

    def test_the_object_keeps_nothing_else(self):
        watcher = loaded(TEXT)
        kept = sorted(vars(watcher))
        for moment in range(300):
            watcher.entry(moment, [row_of(f"n{moment}")])
        self.assertEqual(sorted(vars(watcher)), kept)
        self.assertLessEqual(self.size(watcher), 1 + 1 + 1 + 1 + 3 + 2)


if __name__ == "__main__":
    unittest.main()
