"""judge and load: each fault's kind and place, and which of several is told."""

import random
import unittest

from helper import RESERVED, judge, judged, load, run, some_rules, straight_judge

OPENERS = {"(": "(", "not": "not ", "once": "once ", "always": "always ", "before": "before ", "least": "least 1 ",
           "implies": "a implies "}


class Faults(unittest.TestCase):
    def fault(self, text, kind, place):
        self.assertEqual(run(judge(text), load(text)), [[-6, kind, place]] * 2, text)

    def good(self, text, count=1):
        self.assertEqual(judged(text), [count], text)


class EndsTooSoon(Faults):
    def test_nothing_there(self):
        self.fault("", 1, 0)
        self.fault("   ", 1, 3)
        self.fault(" \n\n", 1, 3)

    def test_at_every_place(self):
        words = ("w : not ( a since within 5 b ) and least 3 within 4 c or once within 2 d implies always "
                 "within 1 before yes ; v : no ;").split()
        whole = [words.index(";") + 1, len(words)]
        for count in range(len(words)):
            for behind in ("", " ", "\n  "):
                text = " ".join(words[:count]) + behind
                if count in whole:
                    self.good(text)
                else:
                    self.fault(text, 1, len(text))

    def test_the_texts_end_ends_a_word_and_a_number(self):
        self.fault("w:a;w", 4, 4)
        self.fault("w:a;not", 3, 4)
        self.fault("w:least 65", 4, 8)
        self.fault("w:least 6", 1, 9)
        self.fault("w:" + "x" * 65, 4, 2)
        self.fault("w:" + "x" * 64, 1, 66)
        self.fault("w:" + "(" * 41, 5, 42)
        self.fault("w:a sinc", 3, 4)


class Unknown(Faults):
    def test_every_byte_that_begins_nothing(self):
        known = b" \n():;abcdefghijklmnopqrstuvwxyz0123456789"
        for byte in range(256):
            if byte not in known:
                for ahead in ("", "w", "w:", "w:a", "w: a ", "w:least 3", "w:a;"):
                    text = ahead + chr(byte)
                    place = len(ahead)
                    if chr(byte) == "_" and ahead in ("w", "w:a"):
                        self.fault(text, 1, len(text))
                    else:
                        self.fault(text, 2, place)

    def test_bytes_that_are_known_elsewhere(self):
        self.fault("w:A;", 2, 2)
        self.fault("W:a;", 2, 0)
        self.fault("w:aB;", 2, 3)
        self.fault("\tw:a;", 2, 0)
        self.fault("w:a\r\n;", 2, 3)
        self.fault("w:_a;", 2, 2)
        self.fault("w:least 3_;", 2, 9)
        self.fault("w:once within -1 a;", 2, 14)
        self.fault("w:a;#", 2, 4)

    def test_a_figure_behind_a_beginning_nought(self):
        self.fault("w:least 03 a;", 2, 9)
        self.fault("w:once within 00 a;", 2, 15)
        self.fault("w:once within 0123 a;", 2, 15)
        self.fault("w:a since within 09", 2, 18)
        self.good("w:once within 100 a;")
        self.good("w:once within 0 a;")
        self.good("w:x00;")


class Misplaced(Faults):
    def test_ahead_of_a_watch(self):
        for token in RESERVED + ["5", "0", "99999999999", "(", ")", ":", ";"]:
            self.fault(token, 3, 0)
            self.fault("w:a; " + token + " b", 3, 5)

    def test_behind_a_watchs_name(self):
        for token in RESERVED + ["5", "a", "(", ")", ";"]:
            self.fault("w " + token, 3, 2)

    def test_where_an_operand_must_be(self):
        for ahead in ("w:", "w:(", "w:not ", "w:before ", "w:once within 5 ", "w:always within 5 ",
                      "w:least 3 within 5 ", "w:a and ", "w:a or ", "w:a implies ", "w:a since within 5 "):
            for token in ("and", "or", "implies", "since", "within", "5", "77777777777", ")", ":", ";"):
                self.fault(ahead + token, 3, len(ahead))

    def test_where_within_or_an_operand_must_be(self):
        for ahead in ("w:once ", "w:always ", "w:least 3 ", "w:a since "):
            for token in ("and", "or", "implies", "since", "5", ")", ":", ";"):
                self.fault(ahead + token, 3, len(ahead))

    def test_where_a_number_must_be(self):
        for ahead in ("w:least ", "w:once within ", "w:always within ", "w:a since within ", "w:least 3 within "):
            for token in RESERVED + ["a", "(", ")", ":", ";"]:
                self.fault(ahead + token, 3, len(ahead))

    def test_behind_an_operand(self):
        for ahead in ("w:a ", "w:yes ", "w:(a) ", "w:not a ", "w:(a ", "w:a since b ", "w:a and b "):
            for token in ("not", "once", "always", "before", "least", "within", "yes", "no", "b", "5", "(", ":"):
                self.fault(ahead + token, 3, len(ahead))

    def test_brackets(self):
        self.fault("w:a);", 3, 3)
        self.fault("w:(a));", 3, 5)
        self.fault("w:(a;", 3, 4)
        self.fault("w:((a);", 3, 6)
        self.fault("w:();", 3, 3)
        self.fault("w:(a and (b implies c);", 3, 22)
        self.fault("w:a implies b);", 3, 13)

    def test_a_second_since(self):
        self.fault("w:a since b since c;", 3, 12)
        self.fault("w:a since once b since c;", 3, 17)
        self.fault("w:a since (b) since c;", 3, 14)
        self.fault("w:a and b since c since d;", 3, 18)
        self.fault("w:(a since b since c);", 3, 13)
        self.good("w:a since b and c since d or e since f;")
        self.good("w:a since (b since c) implies d since e;")

    def test_a_number_and_a_word_without_a_blank(self):
        self.fault("w:least 3a;", 3, 9)
        self.fault("w:least 3within 5 a;", 3, 9)
        self.fault("w:once within 5a;", 3, 15)
        self.fault("w:once within 0not a;", 3, 15)
        self.fault("w:once within 5yes;", 3, 15)
        self.good("w:once within 5(a);")
        self.good("w:once within 5\na;")

    def test_two_words_side_by_side(self):
        self.fault("w:a b;", 3, 4)
        self.fault("w:a  \n b;", 3, 7)
        self.fault("w v:a;", 3, 2)
        self.fault("w:yes no;", 3, 6)

    def test_a_number_where_none_may_be(self):
        self.fault("w:3;", 3, 2)
        self.fault("w:a and 3b;", 3, 8)
        self.fault("w:not 4294967296;", 3, 6)
        self.fault("w:" + "9" * 4000 + ";", 3, 2)


class OutOfBounds(Faults):
    def test_n(self):
        for ahead in ("w:once within ", "w:always within ", "w:a since within ", "w:least 3 within "):
            for n in (0, 1, 9, 10, 4294967294, 4294967295):
                self.good(f"{ahead}{n} a;")
            for n in (4294967296, 4294967300, 9999999999, 10 ** 10, 2 ** 64, 10 ** 3000):
                self.fault(f"{ahead}{n} a;", 4, len(ahead))

    def test_k(self):
        for k in (1, 2, 63, 64):
            self.good(f"w:least {k} a;")
        for k in (0, 65, 100, 640, 2 ** 32 + 1, 10 ** 3000):
            self.fault(f"w:least {k} a;", 4, 8)

    def test_names(self):
        name = "n" * 64
        self.good(f"{name}:{name} and b;")
        self.fault(f"{name}n:a;", 4, 0)
        self.fault(f"w:a and {name}n;", 4, 8)
        self.fault(f"w:a and {name}_;", 4, 8)
        self.fault(f"w:a and {name}0;", 4, 8)
        self.fault(f"w:{'not' * 1000};", 4, 2)

    def test_a_watchs_name_again(self):
        self.fault("w:a;w:b;", 4, 4)
        self.fault("w:a;v:a;  w:b;", 4, 10)
        self.fault("w:a;v:a;v", 4, 8)

    def test_a_17th_watch(self):
        text = "".join([f"w{i}:a;" for i in range(16)])
        self.good(text, 16)
        self.fault(text + "v:a;", 4, len(text))
        self.fault(text + " v", 4, len(text) + 1)
        self.fault(text + "w3:a;", 4, len(text))
        self.fault(text + "not:a;", 3, len(text))
        self.fault(text + ";", 3, len(text))


class TooDeep(Faults):
    def closing(self, words):
        return "a" + ")" * words.count("(") + ";"

    def test_of_each_kind(self):
        for word, opener in OPENERS.items():
            text = "w:" + opener * 40
            self.good(text + self.closing([word] * 40))
            self.fault(text + opener + self.closing([word] * 41), 5, len(text) + opener.index(word))

    def test_mixed(self):
        chance = random.Random(5)
        others = [word for word in OPENERS if word != "implies"]
        for _ in range(30):
            words = [chance.choice(others) for _ in range(40)]
            text = "w:" + "".join([OPENERS[word] for word in words])
            self.good(text + self.closing(words))
            for word in others:
                self.fault(text + OPENERS[word], 5, len(text))
            self.fault(text + "(" * 5, 5, len(text))

    def test_implies_with_the_others(self):
        text = "w:" + "(a implies " * 20
        self.good(text + "a" + ")" * 20 + ";")
        self.fault(text + "(", 5, len(text))
        self.fault(text + "not a", 5, len(text))
        self.fault(text + "a implies", 5, len(text) + 2)
        self.fault("w:" + "(" * 40 + "a implies b", 5, 44)
        self.good("w:" + "(" * 39 + "a implies b" + ")" * 39 + ";")

    def test_what_ended_counts_no_more(self):
        self.good("w:" + "not " * 40 + "a and " + "once " * 40 + "b;")
        self.good("w:" + "not " * 40 + "a or " + "(" * 40 + "b" + ")" * 40 + ";")
        self.good("w:" + "not " * 40 + "a since " + "before " * 40 + "b;")
        self.good("w:" + "not " * 40 + "a implies " + "not " * 39 + "b;")
        text = "w:" + "not " * 40 + "a implies " + "not " * 39
        self.fault(text + "not b;", 5, len(text))
        self.good("w:(" + "a implies " * 39 + "b) and (" + "a implies " * 39 + "b);")
        self.good("w:" + "a implies " * 40 + "b;v:" + "(" * 40 + "a" + ")" * 40 + ";", 2)
        self.good("w:not (not (a)) and " + "(not " * 20 + "a" + ")" * 20 + ";")

    def test_since_and_and_and_or_are_not_counted(self):
        self.good("w:" + "(" * 40 + "a since b and c or d" + ")" * 40 + ";")
        self.good("w:" + "(" * 40 + "a" + " since b)" * 40 + ";")
        self.good("w:" + "(a since b and c or " * 40 + "a" + ")" * 40 + ";")


class TooLarge(Faults):
    def test_parts(self):
        for good in ("or ".join(["a "] * 255), "and ".join(["a "] * 255),
                     "or ".join(["(a)"] * 255), "or ".join(["not a "] * 127) + "or ((a))",
                     "and ".join(["a since b "] * 85), "or ".join(["a and b "] * 85),
                     "or ".join(["(a implies b implies c) "] * 51)):
            self.good("w:" + good + ";")
            self.fault("v:yes;w:" + good + ";", 6, 0)
            self.fault("w:" + good + ";  v:no;", 6, 0)

    def test_each_form_counts_one(self):
        forms = {"a": 1, "yes": 1, "no": 1, "(a)": 1, "((a))": 1, "not a": 2, "once a": 2, "once within 5 a": 2,
                 "always a": 2, "before a": 2, "least 1 a": 2, "least 1 within 5 a": 2, "a since b": 3,
                 "a since within 5 b": 3, "a and b": 3, "a and b and c": 4, "(a and b) and c": 5, "a or b": 3,
                 "a or b or c": 4, "a or b and c": 5, "a implies b": 3, "a implies b implies c": 5,
                 "(not a) since (b or c)": 6}
        for form, parts in forms.items():
            most = "or ".join(["a "] * (256 - parts - 1))
            self.good(f"w:{form};v:{most};", 2)
            self.fault(f"w:{form};v:{most} or a;", 6, 0)

    def test_parts_of_all_watches(self):
        text = "".join([f"w{i}:" + "or ".join(["a "] * 15) + ";" for i in range(16)])
        self.good(text, 16)
        self.fault(text.replace("w3:a", "w3:not a"), 6, 0)

    def test_sum_of_the_ks(self):
        text = "w:" + "or ".join(["least 64 a "] * 16) + ";"
        self.good(text)
        self.fault(text + "v:least 1 a;", 6, 0)
        self.fault("v:least 1 a;" + text, 6, 0)
        text = "w:" + "or ".join(["least 64 within 5 a "] * 15) + "or least 63 a;"
        self.good(text + "v:least 1 a;", 2)
        self.fault(text + "v:least 2 a;", 6, 0)
        text = "".join([f"w{i}:least 64 a;" for i in range(16)])
        self.good(text, 16)
        self.fault(text.replace("w9:", "w9:least 1 "), 6, 0)


class Order(Faults):
    def test_the_first_from_the_front(self):
        self.fault("w:a b ? least 65", 3, 4)
        self.fault("w:? a b", 2, 2)
        self.fault("w:least 0 a b", 4, 8)
        self.fault("w:a;w:a b", 4, 4)
        self.fault("w:" + "(" * 41 + " ?", 5, 42)
        self.fault("w:" + "(" * 40 + " ?" + "(", 2, 43)
        self.fault("w:least 65", 4, 8)
        self.fault("w:least 65a;", 4, 8)
        self.fault("w:zB;", 2, 3)
        self.fault("w:a zB;", 3, 4)

    def test_too_large_comes_last(self):
        large = "or ".join(["least 64 a "] * 130)
        self.fault(f"w:{large};", 6, 0)
        self.fault(f"w:{large}", 1, len(large) + 2)
        self.fault(f"w:{large};?", 2, len(large) + 3)
        self.fault(f"w:{large};;", 3, len(large) + 3)
        self.fault(f"w:{large};w:a;", 4, len(large) + 3)
        self.fault(f"w:{large};v:" + "(" * 41, 5, len(large) + 5 + 40)

    def test_a_beginning_nought_ahead_of_all_else(self):
        self.fault("w:00;", 2, 3)
        self.fault("01:a;", 2, 1)
        self.fault("w:a 01;", 2, 5)
        self.fault("w:least 00 a;", 2, 9)
        self.fault("w:once within 09999999999 a;", 2, 15)
        self.fault("w:least 065a;", 2, 9)

    def test_a_words_length_ahead_of_its_place(self):
        name = "n" * 65
        self.fault("w:a " + name, 4, 4)
        self.fault("w " + name, 4, 2)
        self.fault("w:least " + name, 4, 8)
        self.fault("w:least 3" + name, 4, 9)
        text = "".join([f"w{i}:a;" for i in range(16)])
        self.fault(text + name, 4, len(text))

    def test_a_place_ahead_of_bounds_and_depth(self):
        self.fault("w:a 65;", 3, 4)
        self.fault("w:a 4294967296;", 3, 4)
        self.fault("w w:a;", 3, 2)
        self.fault("w:" + "(" * 40 + "a not b", 3, 44)
        self.fault("w:" + "(" * 40 + "a (", 3, 44)
        self.fault("w:" + "(" * 40 + "implies", 3, 42)
        self.fault("w:" + "not " * 40 + "once within 5not", 5, 162)
        self.fault("w:" + "not " * 39 + "once within 5not", 3, 171)

    def test_depth_at_the_word_not_at_its_number(self):
        text = "w:" + "not " * 40
        self.fault(text + "least 65 a;", 5, len(text))
        self.fault(text + "least", 5, len(text))
        self.fault(text + "once within 4294967296", 5, len(text))

    def test_as_a_straight_reading(self):
        chance = random.Random(7)
        pieces = [" " + word + " " for word in RESERVED] + list("abz_019():; \n?") + [
            "00", "65", "64", "4294967295", "4294967296", "x" * 64, "x" * 65, "(" * 41, "not " * 41, "\0", "\xff"]
        for _ in range(1500):
            text = some_rules(chance, 1)
            for _ in range(chance.choice([1, 1, 2])):
                place = chance.randrange(len(text) + 1)
                piece = chance.choice(pieces + ["", ""])
                text = text[:place] + piece + text[place + chance.choice([0, 1, 1, 5, 10000]):]
            self.assertEqual(judged(text), straight_judge(text), text)


if __name__ == "__main__":
    unittest.main()
