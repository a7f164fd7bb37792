"""pastwatch.rules.answers: how calls are handed in and answers given back."""

import builtins
import contextlib
import inspect
import io
import os
import random
import sys
import unittest
from unittest import mock

import pastwatch.rules
from helper import (entry, forget, judge, load, memory, run, some_calls, straight_follow, straight_memory,
                    straight_run, told, wait)
from pastwatch.rules import answers

A = ord("a")
W = ord("w")
COLON = ord(":")
END = ord(";")


class Frozen(list):
    """A list that tells at once when it is changed."""

    def refuse(self, *given):
        raise AssertionError("what was handed in is changed")

    append = extend = insert = pop = remove = clear = sort = reverse = refuse
    __setitem__ = __delitem__ = __iadd__ = __imul__ = refuse


class Form(unittest.TestCase):
    def test_the_empty_list(self):
        self.assertEqual(answers([]), [])

    def test_each_call_as_it_is_written(self):
        self.assertEqual(answers([1, 0, 1, 4, W, COLON, A, END]), [1, 1])
        self.assertEqual(answers([2, 0, 1, 4, W, COLON, A, END]), [1, 1])
        self.assertEqual(answers([1, 0, 1, 0]), [3, -6, 1, 0])
        self.assertEqual(answers([1, 0, 1, 2, W, A]), [3, -6, 1, 2])
        self.assertEqual(answers([2, 0, 1, 1, 0]), [3, -6, 2, 0])
        self.assertEqual(answers([3, 1, 5, 0]), [1, -3])
        self.assertEqual(answers([4, 1, 5, 2, 1, A, 0]), [1, -3])
        self.assertEqual(answers([1, 0, 1, 4097] + [32] * 4097), [1, -2])
        self.assertEqual(answers([5, 0, 0]), [1, -3])
        self.assertEqual(answers([6, 0, 0]), [1, -3])
        self.assertEqual(answers([7, 0, 0]), [1, -3])

    def test_several_calls_behind_one_another(self):
        self.assertEqual(answers([2, 0, 1, 4, W, COLON, A, END, 3, 1, 5, 1, 1, A, 3, 1, 5, 3, 0, 2, A, A, 1, W,
                                  4, 1, -9, 0, 1, 0, 1, 3, W, COLON, END, 4, 1, 7, 2, 0, 1, A]),
                         [1, 1, 1, 1, 1, 0, 1, -5, 3, -6, 3, 2, 1, 1])

    def test_the_answers_kind(self):
        text = "w:once a; v:always a; u:before a; t:before b; s:a since b; r:least 2 a;"
        given = answers(judge("w:a") + load(text) + memory() + told() + entry(0, "a") + wait(1) + entry(-1) + memory()
                        + told() + entry(1, "b") + memory() + told() + forget() + memory() + told())
        self.assertIs(type(given), list)
        self.assertEqual({type(number) for number in given}, {int})

    def test_what_is_told_has_no_count_but_memorys(self):
        self.assertEqual(answers([2, 0, 1, 4, W, COLON, A, END, 5, 0, 0, 6, 0, 0, 3, 1, -8, 1, 1, A, 5, 0, 0, 6, 0, 0,
                                  7, 0, 0, 5, 0, 0]),
                         [1, 1, 2, 0, 0, 1, 0, 1, 1, 4, 0, 1, -8, 1, 1, 0, 1, 0, 2, 0, 0])
        self.assertEqual(answers(load("w:once a; v:least 3 a; u:before a;") + memory() + entry(4, "a") + entry(6, "a")
                                 + told() + memory() + forget() + memory()),
                         [1, 3, 4, 3, 0, 0, 0, 1, 1, 1, 5, 4, 0, 2, 6, 5, 7, 3, 1, 6, 2, 4, 6, 1, 1, 0, 4, 3, 0, 0, 0])

    def test_the_interface_is_a_plain_function(self):
        self.assertEqual(str(inspect.signature(answers)), "(calls)")
        self.assertEqual(answers.__module__, "pastwatch.rules")
        self.assertEqual(os.path.basename(inspect.getsourcefile(answers)), "rules.py")


class Apart(unittest.TestCase):
    CALLS = (told() + judge("w:a b;") + load("w:once a; v:least 2 b;") + entry(3, "a", "b") + wait(5, "b") + entry(2)
             + memory() + entry(6) + told() + forget() + memory() + entry(0, "b"))

    def test_what_is_handed_in_is_the_same(self):
        calls = list(self.CALLS)
        answers(calls)
        self.assertEqual(calls, self.CALLS)

    def test_not_changed_for_a_while_either(self):
        self.assertEqual(answers(Frozen(self.CALLS)), answers(self.CALLS))

    def test_nothing_is_kept_from_one_time_to_the_next(self):
        first = answers(self.CALLS)
        for call in (entry(0), wait(0), told(), memory(), forget()):
            self.assertEqual(answers(call + call), [1, -3, 1, -3])
        self.assertEqual(answers(self.CALLS), first)
        first.append(7)
        first[0] = 99
        self.assertEqual(answers(self.CALLS), [1, -3, 3, -6, 3, 4, 1, 2, 1, 1, 1, 3, 1, -5, 5, 2, 1, 3, 1, 3, 1, 1,
                                               4, 0, 2, 6, 1, 1, 0, 3, 2, 0, 0, 1, 0])

    def test_two_lists_after_one_another(self):
        text = "w:once a; v:least 2 b; u:before a;"
        later = load(text) + told() + memory() + entry(-50) + memory() + told()
        alone = answers(later)
        answers(load(text) + entry(3, "a", "b") + entry(4, "a", "b") + memory() + told())
        self.assertEqual(answers(later), alone)
        chance = random.Random(83)
        lists = [sum(some_calls(chance, 40), []) for _ in range(10)]
        first = [answers(calls) for calls in lists]
        self.assertEqual([answers(calls) for calls in reversed(lists)], first[::-1])

    def test_it_prints_reads_and_imports_nothing(self):
        def refuse(*given, **named):
            raise AssertionError("it reads, prints or imports")
        out = io.StringIO()
        modules = set(sys.modules)
        with contextlib.redirect_stdout(out), contextlib.redirect_stderr(out), \
                mock.patch.object(builtins, "open", refuse), mock.patch.object(builtins, "input", refuse), \
                mock.patch.object(builtins, "print", refuse), mock.patch.object(builtins, "__import__", refuse):
            answers(self.CALLS)
        self.assertEqual(out.getvalue(), "")
        self.assertEqual(set(sys.modules), modules)

    def test_a_call_that_is_none(self):
        for number in (0, 8, 99, -5):
            self.assertRaises(pastwatch.rules.UnknownCall, answers, [number, 0, 0])


class Mixed(unittest.TestCase):
    def test_all_seven_by_hand(self):
        self.assertEqual(
            run(told(), forget(), load("w:once a; v:least 2 within 5 b;"), told(), memory(), entry(-3, "a", "b"),
                wait(0, "b"), judge("w:a;v:"), memory(), entry(-4), told(), entry(2, "b"), entry(3, "b"), memory(),
                load("w"), told(), forget(), memory(), entry(-9), told(), load("u:before a;"), memory(), entry(0, "a"),
                memory(), wait(0), told()),
            [[-3], [-3], [2], [0, 0], [2, 0, 0], [1], [3], [-6, 1, 6], [2, 1, -3, 1, -3], [-5], [0, 1, -3, 1], [3], [3],
             [2, 1, -3, 2, 2, 3], [-6, 1, 1], [0, 3, 3, 3], [0], [2, 0, 0], [0], [0, 1, -9, 0], [1], [1, 0], [0],
             [1, 1], [1], [0, 1, 0, 0]])

    def test_as_a_straight_reading(self):
        chance = random.Random(89)
        for _ in range(60):
            calls = some_calls(chance, chance.randrange(1, 70))
            self.assertEqual(run(*calls), straight_run(*calls), calls)

    def test_each_kind_is_among_them(self):
        calls = some_calls(random.Random(97), 300)
        self.assertEqual({call[0] for call in calls}, {1, 2, 3, 4, 5, 6, 7})
        self.assertEqual({answer[0] for answer in run(*calls) if answer[0] < 0}, {-1, -3, -5, -6})


class Large(unittest.TestCase):
    def test_400_calls(self):
        text = "w:least 64 within 100 yes; v:once within 3 a; u:before a;"
        row = [(moment // 2, "a" if moment % 9 == 0 else "") for moment in range(399)]
        calls = [load(text)] + [entry(moment, *names.split()) for moment, names in row]
        self.assertEqual(len(calls), 400)
        self.assertEqual([answer[0] for answer in run(*calls)[1:]], straight_follow(text, row))
        self.assertEqual(run(*[wait(0)] * 400), [[-3]] * 400)
        self.assertEqual(run(*[told()] * 400), [[-3]] * 400)

    def test_400_calls_60_of_memory_among_them(self):
        text = "w:once a since least 9 b; v:always within 30 not a; u:before b;"
        calls = [load(text)]
        for i in range(339):
            names = [name for name, every in (("a", 7), ("b", 3)) if i % every == 0]
            calls.append(entry(i // 2 - 60, *names))
            if i % 5 == 4 and calls.count(memory()) < 60:
                calls.append(memory())
        self.assertEqual((len(calls), calls.count(memory())), (400, 60))
        self.assertEqual(run(*calls), straight_run(*calls))
        handed = [number for call in calls for number in call]
        copied = list(handed)
        answers(handed)
        self.assertEqual(handed, copied)

    def test_400_mixed_calls(self):
        calls = some_calls(random.Random(127), 400)
        self.assertEqual(run(*calls), straight_run(*calls))

    def test_60_of_the_largest_memories(self):
        text = "w:" + "or ".join(["least 64 within 1 yes "] * 16) + ";"
        row = [(moment, "") for moment in range(339)]
        calls = [load(text)] + [entry(moment) for moment, names in row] + [memory()] * 60
        given = run(*calls)
        # Lists this long are only compared: showing where they differ would take minutes.
        self.assertTrue(given[340:] == [[16] + ([64] + list(range(275, 339))) * 16] * 60)
        self.assertTrue(given[-1] == straight_memory(text, row))

    def test_40_deep(self):
        row = [(moment, "a" if moment % 3 == 0 else "b" if moment % 5 == 0 else "") for moment in range(50)]
        for text in ("w:" + "(" * 40 + "a" + ")" * 40 + ";", "w:" + "not " * 40 + "a;", "w:" + "before " * 40 + "a;",
                     "w:" + "once within 1 " * 40 + "a;", "w:" + "always within 1 " * 40 + "a;",
                     "w:" + "least 1 within 2 " * 40 + "a;", "w:" + "b implies " * 40 + "a;",
                     "w:" + "(b or b and a since " * 20 + "not once a" + ")" * 20 + ";",
                     "w:" + "(not before " * 13 + "a" + ")" * 13 + ";"):
            calls = [load(text)] + [entry(moment, *names.split()) for moment, names in row]
            self.assertEqual([answer[0] for answer in run(*calls)[1:]], straight_follow(text, row), text)

    def test_the_longest_texts(self):
        name = "n" * 64
        rest = " and ".join([name] * 59)
        text = f"w:{rest};"
        text += " " * (4096 - len(text))
        self.assertEqual(len(text), 4096)
        self.assertEqual(run(load(text), entry(0, name), entry(0, name[1:])), [[1], [1], [0]])
        self.assertEqual(run(load(text + " "), entry(0, name)), [[-2], [-3]])
        self.assertEqual(run(judge("w:a " + "b" * 14000)), [[-2]])
        self.assertEqual(run(judge("w:" + "((" * 2047)), [[-6, 5, 42]])
        self.assertEqual(run(judge("w:" + "a or " * 818 + "a;")), [[-6, 6, 0]])
        self.assertEqual(run(judge("w:least " + "7" * 4086 + ";")), [[-6, 4, 8]])

    def test_the_longest_lists(self):
        calls = load("w:a;") + entry(0, "b" * 15000) + entry(0, *["a"] * 400)
        self.assertLess(len(calls), 16001)
        self.assertEqual(answers(calls), [1, 1, 1, 0, 1, 1])
        calls = judge(" " * 15000)
        self.assertEqual(answers(calls), [1, -2])

    def test_a_shallow_stack_is_enough(self):
        deep = "w:" + "(not a implies " * 13 + "b" + ")" * 13 + ";"
        wide = "w:" + " or ".join(["a and b since c"] * 51) + ";"
        depth = len(inspect.stack())
        limit = sys.getrecursionlimit()
        calls = load(deep) + entry(0, "a") + load(wide) + entry(0, "a") + entry(0, "b", "c")
        sys.setrecursionlimit(depth + 30)
        try:
            given = answers(calls)
        finally:
            sys.setrecursionlimit(limit)
        self.assertEqual(given[:2], [1, 1])
        self.assertEqual(len(given), 10)


if __name__ == "__main__":
    unittest.main()
