"""told: how many entries there are, the last one's moment and its answer."""

import unittest

from helper import FARTHEST, entry, followed, forget, judge, load, memory, run, told, wait

TEXT = "w:a; v:before a; u:once b;"


class Told(unittest.TestCase):
    def told(self, *calls):
        return run(*calls, told())[-1]

    def test_no_rules(self):
        self.assertEqual(self.told(), [-3])
        self.assertEqual(self.told(judge(TEXT)), [-3])
        self.assertEqual(self.told(load("w:a")), [-3])
        self.assertEqual(self.told(load(" " * 4097)), [-3])
        self.assertEqual(self.told(entry(3, "a"), wait(3), forget(), memory(), told()), [-3])

    def test_no_entry(self):
        self.assertEqual(self.told(load(TEXT)), [0, 0])
        self.assertEqual(self.told(load(TEXT), forget()), [0, 0])
        self.assertEqual(self.told(load(TEXT), entry(4, "a"), forget()), [0, 0])
        self.assertEqual(self.told(load(TEXT), entry(FARTHEST + 1, "a")), [0, 0])
        self.assertEqual(self.told(load(TEXT), wait(4, "a")), [0, 0])

    def test_entries(self):
        self.assertEqual(self.told(load(TEXT), entry(4, "a")), [0, 1, 4, 1])
        self.assertEqual(self.told(load(TEXT), entry(4, "a"), entry(9, "b")), [0, 2, 9, 6])
        self.assertEqual(self.told(load(TEXT), entry(4, "b"), entry(9, "a"), entry(9, "a")), [0, 3, 9, 7])
        self.assertEqual(self.told(load(TEXT), *[entry(7)] * 300), [0, 300, 7, 0])

    def test_an_answer_of_0(self):
        self.assertEqual(self.told(load(TEXT), entry(4)), [0, 1, 4, 0])
        self.assertEqual(self.told(load("w:a;"), entry(4, "a"), entry(5)), [0, 2, 5, 0])

    def test_moments_of_0_and_below(self):
        self.assertEqual(self.told(load(TEXT), entry(0, "a")), [0, 1, 0, 1])
        self.assertEqual(self.told(load(TEXT), entry(0)), [0, 1, 0, 0])
        self.assertEqual(self.told(load(TEXT), entry(-6, "a")), [0, 1, -6, 1])
        self.assertEqual(self.told(load(TEXT), entry(-6, "a"), entry(-1)), [0, 2, -1, 2])
        self.assertEqual(self.told(load(TEXT), entry(-6, "a"), entry(0)), [0, 2, 0, 2])
        self.assertEqual(self.told(load(TEXT), entry(-FARTHEST)), [0, 1, -FARTHEST, 0])
        self.assertEqual(self.told(load(TEXT), entry(FARTHEST)), [0, 1, FARTHEST, 0])

    def test_16_watches(self):
        text = "".join([f"w{i}:n{i};" for i in range(16)])
        self.assertEqual(self.told(load(text), entry(1, *[f"n{i}" for i in range(16)])), [0, 1, 1, 65535])
        self.assertEqual(self.told(load(text), entry(1, "n15")), [0, 1, 1, 32768])

    def test_behind_each_entry(self):
        row = [(-2, "a"), (-2, ""), (0, "b"), (3, "a b"), (3, "a"), (11, "")]
        calls = [load(TEXT)]
        for moment, names in row:
            calls += [entry(moment, *names.split()), told(), told()]
        bits = followed(TEXT, row)
        expected = [[0, i + 1, row[i][0], bits[i]] for i in range(len(row))]
        self.assertEqual(run(*calls)[2::3], expected)
        self.assertEqual(run(*calls)[3::3], expected)

    def test_what_changes_nothing_of_it(self):
        for call in (entry(FARTHEST + 1, "b"), entry(-FARTHEST - 1), wait(9, "b"), wait(4), wait(3), wait(FARTHEST + 1),
                     judge("w:b;"), judge("w:b"), judge(" " * 4097), load("w:b"), load(""), load("w:b;w:b;"),
                     load(" " * 4097), memory(), told()):
            self.assertEqual(self.told(load(TEXT), call), [0, 0], call)
            self.assertEqual(self.told(load(TEXT), entry(1, "b"), entry(4, "a"), call), [0, 2, 4, 5], call)
        self.assertEqual(self.told(load(TEXT), entry(1, "b"), entry(4, "a"), entry(3, "b")), [0, 2, 4, 5])

    def test_a_good_load_does(self):
        for text in (TEXT, "w:b;"):
            self.assertEqual(self.told(load(TEXT), entry(1, "b"), entry(4, "a"), load(text)), [0, 0])
        self.assertEqual(self.told(load(TEXT), entry(1, "b"), entry(4, "a"), load(TEXT), entry(-9, "b")),
                         [0, 1, -9, 4])


if __name__ == "__main__":
    unittest.main()
