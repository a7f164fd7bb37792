"""What the tests share: calls written down, and a straight reading of the document to hold answers against."""

import re

from pastwatch.rules import answers

RESERVED = "not and or implies since once always before least within yes no".split()
FARTHEST = 2 ** 53


def row_of(text):
    return list(text.encode("latin-1")) if isinstance(text, str) else list(text)


def written(number, numbers, texts):
    rows = [row_of(text) for text in texts]
    call = [number, len(numbers)] + list(numbers) + [len(rows)]
    for row in rows:
        call += [len(row)] + row
    return call


def judge(text):
    return written(1, [], [text])


def load(text):
    return written(2, [], [text])


def entry(moment, *names):
    return written(3, [moment], names)


def wait(moment, *names):
    return written(4, [moment], names)


def told():
    return written(5, [], [])


def memory():
    return written(6, [], [])


def forget():
    return written(7, [], [])


def parted(numbers):
    found = []
    place = 0
    while place < len(numbers):
        found.append(numbers[place + 1:place + 1 + numbers[place]])
        assert len(found[-1]) == numbers[place]
        place += 1 + numbers[place]
    return found


def run(*calls):
    """The answers, one list for each call."""
    handed = [number for call in calls for number in call]
    assert len(calls) <= 400 and len(handed) <= 16000 and calls.count(memory()) <= 60, "more than may be handed in"
    return parted(answers(handed))


def judged(text):
    return run(judge(text))[0]


def entries(row):
    """The calls that take these entries; an entry is a moment and its names, parted by blanks."""
    return [entry(moment, *names.split()) for moment, names in row]


def followed(text, row):
    """The entries' answers under these rules."""
    return [answer[0] for answer in run(load(text), *entries(row))[1:]]


def remembered(text, row):
    """What memory answers behind these entries."""
    return run(load(text), *entries(row), memory())[-1]


def held(formula, row):
    """The answers of one watch alone, as a text of 0 and 1."""
    return "".join(str(answer) for answer in followed("w: " + formula + ";", row))


class Fault(Exception):
    def __init__(self, kind, place):
        Exception.__init__(self, kind, place)
        self.kind = kind
        self.place = place


class Straight:
    """Reads rules by the document's grammar, one method for each of its rows."""

    def __init__(self, text):
        self.text = text
        self.at = 0
        self.parts = 0
        self.total = 0
        self.kept = []

    def peek(self):
        self.at = re.compile(r"[ \n]*").match(self.text, self.at).end()
        if self.at == len(self.text):
            return None
        found = re.compile(r"[a-z][a-z0-9_]*|[0-9]+|[():;]").match(self.text, self.at)
        if found is None:
            raise Fault(2, self.at)
        token = found.group()
        if re.match("0[0-9]", token):
            raise Fault(2, self.at + 1)
        if token[0].isalpha() and len(token) > 64:
            raise Fault(4, self.at)
        if token[0].isalpha() and self.at > 0 and self.text[self.at - 1].isdigit():
            raise Fault(3, self.at)
        return token

    def pass_on(self):
        place = self.at
        self.at += len(self.peek())
        return place

    def fail(self):
        if self.peek() is None:
            raise Fault(1, len(self.text))
        raise Fault(3, self.at)

    def must(self, token):
        if self.peek() != token:
            self.fail()
        self.pass_on()

    def at_name(self):
        token = self.peek()
        return token is not None and token[0].isalpha() and token not in RESERVED

    def number(self, lowest, highest):
        token = self.peek()
        if token is None or not token.isdigit():
            self.fail()
        place = self.pass_on()
        if len(token) > 20 or not lowest <= int(token) <= highest:
            raise Fault(4, place)
        return int(token)

    def deeper(self, depth):
        place = self.pass_on()
        if depth == 40:
            raise Fault(5, place)
        return depth + 1

    def part(self, *tree):
        self.parts += 1
        return tree

    def keep(self, place, *tree):
        self.kept.append((place, tree))
        return self.part(*tree)

    def rules(self):
        watches = {}
        while self.peek() is not None or not watches:
            if not self.at_name():
                self.fail()
            name = self.peek()
            if name in watches or len(watches) == 16:
                raise Fault(4, self.at)
            self.pass_on()
            self.must(":")
            watches[name] = self.f(0)
            self.must(";")
        if self.parts > 256 or self.total > 1024:
            raise Fault(6, 0)
        return list(watches.values())

    def f(self, depth):
        left = self.o(depth)
        if self.peek() != "implies":
            return left
        return self.part("implies", left, self.f(self.deeper(depth)))

    def several(self, word, inner, depth):
        trees = [inner(depth)]
        while self.peek() == word:
            self.pass_on()
            trees.append(inner(depth))
        return trees[0] if len(trees) == 1 else self.part(word, trees)

    def o(self, depth):
        return self.several("or", self.a, depth)

    def a(self, depth):
        return self.several("and", self.s, depth)

    def s(self, depth):
        left = self.u(depth)
        if self.peek() != "since":
            return left
        place = self.pass_on()
        span = self.span()
        return self.keep(place, "since", span, left, self.u(depth))

    def span(self):
        if self.peek() != "within":
            return None
        self.pass_on()
        return self.number(0, 4294967295)

    def u(self, depth):
        word = self.peek()
        place = self.at
        if word == "not":
            return self.part(word, self.u(self.deeper(depth)))
        if word == "before":
            return self.keep(place, word, self.u(self.deeper(depth)))
        if word in ("once", "always"):
            inner = self.deeper(depth)
            return self.keep(place, word, self.span(), self.u(inner))
        if word == "least":
            inner = self.deeper(depth)
            needed = self.number(1, 64)
            self.total += needed
            return self.keep(place, word, needed, self.span(), self.u(inner))
        return self.t(depth)

    def t(self, depth):
        word = self.peek()
        if word == "(":
            inner = self.f(self.deeper(depth))
            self.must(")")
            return inner
        if word not in ("yes", "no") and not self.at_name():
            self.fail()
        self.pass_on()
        return self.part(word) if word in ("yes", "no") else self.part("name", word)


def straight_judge(text):
    if len(text) > 4096:
        return [-2]
    try:
        return [len(Straight(text).rules())]
    except Fault as fault:
        return [-6, fault.kind, fault.place]


class Row:
    """Tells what holds at an entry by the table, and what the memory is, from the whole row."""

    def __init__(self, row):
        self.row = row
        self.told = {}

    def grown(self, moment, names):
        """The row with one more entry: what is told of the others stays as it is."""
        longer = Row(self.row + [(moment, names)])
        longer.told.update(self.told)
        return longer

    def bits(self, watches):
        return sum([2 ** place for place, tree in enumerate(watches) if self.holds(tree, len(self.row) - 1)])

    def member(self, tree):
        word = tree[0]
        every = range(len(self.row))
        if word == "before":
            return [1 if self.row and self.holds(tree[1], len(self.row) - 1) else 0]
        if word == "since":
            found = [j for j in every
                     if self.holds(tree[3], j) and all([self.holds(tree[2], k) for k in every[j + 1:]])]
        else:
            found = [j for j in every if self.holds(tree[-1], j) == (word != "always")]
        if word == "least":
            return [len(found[-tree[1]:])] + [self.row[j][0] for j in found[-tree[1]:]]
        return [1, self.row[found[-1]][0]] if found else [0]

    def memory(self, kept):
        members = [self.member(tree) for place, tree in sorted(kept, key=lambda one: one[0])]
        return [len(members)] + [number for member in members for number in member]

    def holds(self, tree, i):
        key = (id(tree), i)
        if key not in self.told:
            self.told[key] = self.look(tree, i)
        return self.told[key]

    def near(self, span, i):
        moment = self.row[i][0]
        return [j for j in range(i + 1) if span is None or moment - self.row[j][0] <= span]

    def look(self, tree, i):
        word = tree[0]
        if word in ("yes", "no"):
            return word == "yes"
        if word == "name":
            return tree[1] in self.row[i][1].split()
        if word == "not":
            return not self.holds(tree[1], i)
        if word == "and":
            return all([self.holds(inner, i) for inner in tree[1]])
        if word == "or":
            return any([self.holds(inner, i) for inner in tree[1]])
        if word == "implies":
            return self.holds(tree[2], i) if self.holds(tree[1], i) else True
        if word == "before":
            return i != 0 and self.holds(tree[1], i - 1)
        if word == "since":
            return any([self.holds(tree[3], j) and all([self.holds(tree[2], k) for k in range(j + 1, i + 1)])
                        for j in self.near(tree[1], i)])
        found = [self.holds(tree[-1], j) for j in self.near(tree[-2], i)]
        if word == "always":
            return False not in found
        return found.count(True) >= (tree[1] if word == "least" else 1)


def straight_follow(text, row):
    watches = Straight(text).rules()
    return [Row(row[:i + 1]).bits(watches) for i in range(len(row))]


def straight_memory(text, row):
    reading = Straight(text)
    reading.rules()
    return Row(row).memory(reading.kept)


class Whole:
    """The object by the document's words: it keeps its rules and the whole row."""

    def __init__(self):
        self.watches = None
        self.kept = []
        self.row = Row([])

    def answer(self, call):
        number, numbers, texts = taken_apart(call)
        if number in (1, 2):
            return self.judge_or_load(number == 2, texts[0])
        if self.watches is None:
            return [-3]
        if number in (3, 4):
            return self.entry_or_wait(number == 3, numbers[0], texts)
        if number == 5:
            row = self.row.row
            return [0, len(row), row[-1][0], self.row.bits(self.watches)] if row else [0, 0]
        if number == 6:
            return self.row.memory(self.kept)
        self.row = Row([])
        return [0]

    def judge_or_load(self, loads, text):
        answer = straight_judge(text)
        if loads and answer[0] > 0:
            reading = Straight(text)
            self.watches = reading.rules()
            self.kept = reading.kept
            self.row = Row([])
        return answer

    def entry_or_wait(self, takes, moment, names):
        row = self.row.row
        if not -FARTHEST <= moment <= FARTHEST:
            return [-1]
        if row and moment < row[-1][0]:
            return [-5]
        names = [name for name in names if re.fullmatch("[a-z][a-z0-9_]*", name)]
        longer = self.row.grown(moment, " ".join(names))
        if takes:
            self.row = longer
        return [longer.bits(self.watches)]


def taken_apart(call):
    """A written call's number, its whole numbers, its lists as texts."""
    numbers = call[2:2 + call[1]]
    texts = [bytes(row).decode("latin-1") for row in parted(call[3 + call[1]:])]
    assert len(texts) == call[2 + call[1]]
    return call[0], numbers, texts


def straight_run(*calls):
    whole = Whole()
    return [whole.answer(call) for call in calls]


def some_formula(chance, depth):
    """A random F in the document's grammar, with brackets only now and then."""
    def inner():
        return some_formula(chance, depth - 1)

    def unary():
        span = chance.choice(["", "", f"within {chance.randrange(9)} "])
        return chance.choice(["not ", "once " + span, "always " + span, "before ",
                              f"least {chance.randrange(1, 4)} " + span, "", ""]) + some_t()

    def some_t():
        if depth > 0 and chance.random() < 0.7:
            return "(" + inner() + ")"
        return chance.choice(["a", "b", "c", "d"] * 6 + ["yes", "no"])

    def some_s():
        behind = " since " + chance.choice(["", f"within {chance.randrange(9)} "]) + unary()
        return unary() + (behind if chance.random() < 0.3 else "")

    def some_a():
        return " and ".join([some_s() for _ in range(chance.choice([1, 1, 1, 2, 3]))])

    found = " or ".join([some_a() for _ in range(chance.choice([1, 1, 1, 2, 3]))])
    return found + (" implies " + inner() if depth > 0 and chance.random() < 0.2 else "")


def some_rules(chance, depth):
    return "\n".join([f"w{i}: {some_formula(chance, depth)};" for i in range(chance.randrange(1, 5))])


def some_row(chance, length):
    moment = chance.randrange(-20, 20)
    row = []
    for _ in range(length):
        row.append((moment, " ".join([name for name in "abcd" if chance.random() < 0.5])))
        moment += chance.choice([0, 0, 1, 1, 2, 3, 7])
    return row


def good_rules(chance, depth=2):
    while True:
        text = some_rules(chance, depth)
        if len(text) < 1000 and straight_judge(text)[0] > 0:
            return text


def some_call(chance, moment):
    """A call of any of the seven kinds, refused now and then; an entry or a wait is of about this moment."""
    names = [name for name in ("a", "b", "c", "d", "e", "", "A") if chance.random() < 0.5]
    when = chance.choice([moment] * 9 + [moment - 3, FARTHEST + 1, -FARTHEST - 1])
    faulty = chance.choice(["", "w:a", "w:a b;", "w:least 65 a;", "w:a;w:b;", "w:(a;", "?"])
    kind = chance.choice(["entry"] * 12 + ["wait"] * 4 + ["told", "memory"] * 3 + ["faulty"] * 2
                         + ["judge", "load", "forget"])
    if kind in ("entry", "wait"):
        return entry(when, *names) if kind == "entry" else wait(when, *names)
    if kind == "faulty":
        return chance.choice([judge, load])(faulty)
    if kind in ("judge", "load"):
        text = good_rules(chance, chance.choice([0, 0, 2]))
        return judge(text) if kind == "judge" else load(text)
    return {"told": told, "memory": memory, "forget": forget}[kind]()


def some_calls(chance, count):
    """Calls that may be handed in together: a few without rules, then mostly with."""
    first = chance.randrange(4)
    moment = chance.randrange(-20, 20)
    calls = []
    while len(calls) < count:
        moment += chance.choice([0, 0, 1, 1, 2, 7])
        call = load(good_rules(chance)) if len(calls) == first else some_call(chance, moment)
        if call != memory() or calls.count(call) < 60:
            calls.append(call)
    return calls
