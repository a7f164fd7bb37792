"""What the tests share: calls written down, and a straight reading of the document to hold answers against."""

import re

from pastwatch.rules import answers

RESERVED = "not and or implies since once always before least within yes no".split()
FARTHEST = 2 ** 53


def row_of(text):
    return list(text.encode("latin-1")) if isinstance(text, str) else list(text)


def written(number, numbers, texts):
    rows = [row_of(text) for text in texts]
    call = [number, len(numbers)] + list(numbers) + [len(rows)]
    for row in rows:
        call += [len(row)] + row
    return call


def judge(text):
    return written(1, [], [text])


def load(text):
    return written(2, [], [text])


def entry(moment, *names):
    return written(3, [moment], names)


def wait(moment, *names):
    return written(4, [moment], names)


def parted(numbers):
    found = []
    place = 0
    while place < len(numbers):
        found.append(numbers[place + 1:place + 1 + numbers[place]])
        assert len(found[-1]) == numbers[place]
        place += 1 + numbers[place]
    return found


def run(*calls):
    """The answers, one list for each call."""
    return parted(answers([number for call in calls for number in call]))


def judged(text):
    return run(judge(text))[0]


def followed(text, row):
    """The entries' answers under these rules; an entry is a moment and its names, parted by blanks."""
    calls = [load(text)] + [entry(moment, *names.split()) for moment, names in row]
    return [answer[0] for answer in run(*calls)[1:]]


def held(formula, row):
    """The answers of one watch alone, as a text of 0 and 1."""
    return "".join(str(answer) for answer in followed("w: " + formula + ";", row))


class Fault(Exception):
    def __init__(self, kind, place):
        Exception.__init__(self, kind, place)
        self.kind = kind
        self.place = place


class Straight:
    """Reads rules by the document's grammar, one method for each of its rows."""

    def __init__(self, text):
        self.text = text
        self.at = 0
        self.parts = 0
        self.total = 0

    def peek(self):
        self.at = re.compile(r"[ \n]*").match(self.text, self.at).end()
        if self.at == len(self.text):
            return None
        found = re.compile(r"[a-z][a-z0-9_]*|[0-9]+|[():;]").match(self.text, self.at)
        if found is None:
            raise Fault(2, self.at)
        token = found.group()
        if re.match("0[0-9]", token):
            raise Fault(2, self.at + 1)
        if token[0].isalpha() and len(token) > 64:
            raise Fault(4, self.at)
        if token[0].isalpha() and self.at > 0 and self.text[self.at - 1].isdigit():
            raise Fault(3, self.at)
        return token

    def pass_on(self):
        place = self.at
        self.at += len(self.peek())
        return place

    def fail(self):
        if self.peek() is None:
            raise Fault(1, len(self.text))
        raise Fault(3, self.at)

    def must(self, token):
        if self.peek() != token:
            self.fail()
        self.pass_on()

    def at_name(self):
        token = self.peek()
        return token is not None and token[0].isalpha() and token not in RESERVED

    def number(self, lowest, highest):
        token = self.peek()
        if token is None or not token.isdigit():
            self.fail()
        place = self.pass_on()
        if len(token) > 20 or not lowest <= int(token) <= highest:
            raise Fault(4, place)
        return int(token)

    def deeper(self, depth):
        place = self.pass_on()
        if depth == 40:
            raise Fault(5, place)
        return depth + 1

    def part(self, *tree):
        self.parts += 1
        return tree

    def rules(self):
        watches = {}
        while self.peek() is not None or not watches:
            if not self.at_name():
                self.fail()
            name = self.peek()
            if name in watches or len(watches) == 16:
                raise Fault(4, self.at)
            self.pass_on()
            self.must(":")
            watches[name] = self.f(0)
            self.must(";")
        if self.parts > 256 or self.total > 1024:
            raise Fault(6, 0)
        return list(watches.values())

    def f(self, depth):
        left = self.o(depth)
        if self.peek() != "implies":
            return left
        return self.part("implies", left, self.f(self.deeper(depth)))

    def several(self, word, inner, depth):
        trees = [inner(depth)]
        while self.peek() == word:
            self.pass_on()
            trees.append(inner(depth))
        return trees[0] if len(trees) == 1 else self.part(word, trees)

    def o(self, depth):
        return self.several("or", self.a, depth)

    def a(self, depth):
        return self.several("and", self.s, depth)

    def s(self, depth):
        left = self.u(depth)
        if self.peek() != "since":
            return left
        self.pass_on()
        span = self.span()
        return self.part("since", span, left, self.u(depth))

    def span(self):
        if self.peek() != "within":
            return None
        self.pass_on()
        return self.number(0, 4294967295)

    def u(self, depth):
        word = self.peek()
        if word in ("not", "before"):
            return self.part(word, self.u(self.deeper(depth)))
        if word in ("once", "always"):
            inner = self.deeper(depth)
            return self.part(word, self.span(), self.u(inner))
        if word == "least":
            inner = self.deeper(depth)
            needed = self.number(1, 64)
            self.total += needed
            return self.part(word, needed, self.span(), self.u(inner))
        return self.t(depth)

    def t(self, depth):
        word = self.peek()
        if word == "(":
            inner = self.f(self.deeper(depth))
            self.must(")")
            return inner
        if word not in ("yes", "no") and not self.at_name():
            self.fail()
        self.pass_on()
        return self.part(word) if word in ("yes", "no") else self.part("name", word)


def straight_judge(text):
    if len(text) > 4096:
        return [-2]
    try:
        return [len(Straight(text).rules())]
    except Fault as fault:
        return [-6, fault.kind, fault.place]


class Row:
    """Tells what holds at an entry by the table, from the whole row."""

    def __init__(self, row):
        self.row = row
        self.told = {}

    def holds(self, tree, i):
        key = (id(tree), i)
        if key not in self.told:
            self.told[key] = self.look(tree, i)
        return self.told[key]

    def near(self, span, i):
        moment = self.row[i][0]
        return [j for j in range(i + 1) if span is None or moment - self.row[j][0] <= span]

    def look(self, tree, i):
        word = tree[0]
        if word in ("yes", "no"):
            return word == "yes"
        if word == "name":
            return tree[1] in self.row[i][1].split()
        if word == "not":
            return not self.holds(tree[1], i)
        if word == "and":
            return all([self.holds(inner, i) for inner in tree[1]])
        if word == "or":
            return any([self.holds(inner, i) for inner in tree[1]])
        if word == "implies":
            return self.holds(tree[2], i) if self.holds(tree[1], i) else True
        if word == "before":
            return i != 0 and self.holds(tree[1], i - 1)
        if word == "since":
            return any([self.holds(tree[3], j) and all([self.holds(tree[2], k) for k in range(j + 1, i + 1)])
                        for j in self.near(tree[1], i)])
        found = [self.holds(tree[-1], j) for j in self.near(tree[-2], i)]
        if word == "always":
            return False not in found
        return found.count(True) >= (tree[1] if word == "least" else 1)


def straight_follow(text, row):
    watches = Straight(text).rules()
    told = []
    for i in range(len(row)):
        whole = Row(row[:i + 1])
        told.append(sum([2 ** place for place, tree in enumerate(watches) if whole.holds(tree, i)]))
    return told


def some_formula(chance, depth):
    """A random F in the document's grammar, with brackets only now and then."""
    def inner():
        return some_formula(chance, depth - 1)

    def unary():
        span = chance.choice(["", "", f"within {chance.randrange(9)} "])
        return chance.choice(["not ", "once " + span, "always " + span, "before ",
                              f"least {chance.randrange(1, 4)} " + span, "", ""]) + some_t()

    def some_t():
        if depth > 0 and chance.random() < 0.7:
            return "(" + inner() + ")"
        return chance.choice(["a", "b", "c", "d"] * 6 + ["yes", "no"])

    def some_s():
        behind = " since " + chance.choice(["", f"within {chance.randrange(9)} "]) + unary()
        return unary() + (behind if chance.random() < 0.3 else "")

    def some_a():
        return " and ".join([some_s() for _ in range(chance.choice([1, 1, 1, 2, 3]))])

    found = " or ".join([some_a() for _ in range(chance.choice([1, 1, 1, 2, 3]))])
    return found + (" implies " + inner() if depth > 0 and chance.random() < 0.2 else "")


def some_rules(chance, depth):
    return "\n".join([f"w{i}: {some_formula(chance, depth)};" for i in range(chance.randrange(1, 5))])


def some_row(chance, length):
    moment = chance.randrange(-20, 20)
    row = []
    for _ in range(length):
        row.append((moment, " ".join([name for name in "abcd" if chance.random() < 0.5])))
        moment += chance.choice([0, 0, 1, 1, 2, 3, 7])
    return row
