"""Reads a text of rules, or finds its first fault."""

from pastwatch.parts import Part
from pastwatch.parts import Rules
from pastwatch.words import end_of_token
from pastwatch.words import is_figure
from pastwatch.words import is_letter
from pastwatch.words import is_name
from pastwatch.words import skip_blanks
from pastwatch.words import spell

TOO_LONG = -2
FAULTY = -6

SOUND = 0
ENDED = 1
UNKNOWN = 2
MISPLACED = 3
OUT_OF_BOUNDS = 4
TOO_DEEP = 5
TOO_LARGE = 6

MOST_BYTES = 4096
MOST_WATCHES = 16
MOST_IN_NAME = 64
MOST_NEEDED = 64
MOST_SPAN = 4294967295
MOST_FIGURES = 10
MOST_OPENED = 40
MOST_PARTS = 256
MOST_NEEDED_IN_ALL = 1024

# What a reader may expect next.
WATCH = "a watch's name"
COLON = "a colon"
OPERAND = "an operand"
WITHIN = "within or an operand"
NEEDED = "a least's number"
SPAN = "a within's number"
JOINT = "what stands behind an operand"

OPENINGS = ("(", "not", "once", "always", "before", "least")
JOINTS = ("since", "and", "or", "implies", ")", ";")
OPENED = ("(", "not", "once", "always", "before", "least", "implies")
REMEMBERING = ("once", "always", "before", "since", "least")

# A joint ends all that is pending and stronger than it; what is as strong goes on around it.
STRENGTHS = {
    ")": 0, ";": 0, "(": 0, "implies": 1, "or": 2, "and": 3, "since": 4,
    "not": 5, "once": 5, "always": 5, "before": 5, "least": 5,
}


# A number may have thousands of figures: only a short one is made a whole number.
def is_bounded(token, lowest, highest):
    return len(token) <= MOST_FIGURES and lowest <= int(token) <= highest


def behind_opening(token):
    if token == "least":
        return NEEDED
    if token == "once" or token == "always":
        return WITHIN
    return OPERAND


# Takes words, numbers and signs one by one. A part is pending till what stands behind it ends;
# then it goes behind its operands into the row of parts, so the part that ended last is the row's last.
class Reader:
    def __init__(self):
        self.expected = WATCH
        self.known = {}
        self.watches = []
        self.parts = []
        self.pending = []
        self.depth = 0
        self.total = 0
        self.kinds = []

    # Each of the taking methods gives back the kind of the fault, SOUND if there is none.
    def take(self, token):
        if self.expected == WATCH:
            return self.take_watch(token)
        if self.expected == COLON:
            return self.take_colon(token)
        if self.expected == NEEDED:
            return self.take_needed(token)
        if self.expected == SPAN:
            return self.take_span(token)
        if self.expected == JOINT:
            return self.take_joint(token)
        return self.take_operand(token)

    def take_watch(self, token):
        if not is_name(token):
            return MISPLACED
        if token in self.known or len(self.watches) == MOST_WATCHES:
            return OUT_OF_BOUNDS
        self.known[token] = True
        self.expected = COLON
        return SOUND

    def take_colon(self, token):
        if token != ":":
            return MISPLACED
        self.expected = OPERAND
        return SOUND

    def take_needed(self, token):
        if not is_figure(token[0]):
            return MISPLACED
        if not is_bounded(token, 1, MOST_NEEDED):
            return OUT_OF_BOUNDS
        part = self.pending[-1]
        part.needed = int(token)
        self.total += part.needed
        self.expected = WITHIN
        return SOUND

    def take_span(self, token):
        if not is_figure(token[0]):
            return MISPLACED
        if not is_bounded(token, 0, MOST_SPAN):
            return OUT_OF_BOUNDS
        part = self.pending[-1]
        part.span = int(token)
        self.expected = OPERAND
        return SOUND

    def take_operand(self, token):
        if token == "within" and self.expected == WITHIN:
            self.expected = SPAN
            return SOUND
        if token in OPENINGS:
            self.expected = behind_opening(token)
            return self.begin(Part(token, []))
        if token == "yes" or token == "no":
            return self.put(Part(token, []))
        if is_name(token):
            part = Part("name", [])
            part.name = token
            return self.put(part)
        return MISPLACED

    def take_joint(self, token):
        if token not in JOINTS:
            return MISPLACED
        self.end_stronger(STRENGTHS[token])
        around = self.pending[-1].kind if len(self.pending) > 0 else ""
        if token == ")":
            return self.end_bracket(around)
        if token == ";":
            return self.end_watch(around)
        return self.join_operands(token, around)

    def join_operands(self, token, around):
        if token == "since" and around == "since":
            return MISPLACED
        self.expected = WITHIN if token == "since" else OPERAND
        last = len(self.parts) - 1
        if token == around and token != "implies":
            part = self.pending[-1]
            part.operands.append(last)
            return SOUND
        return self.begin(Part(token, [last]))

    def end_bracket(self, around):
        if around != "(":
            return MISPLACED
        self.pending.pop()
        self.depth -= 1
        return SOUND

    def end_watch(self, around):
        if around == "(":
            return MISPLACED
        self.watches.append(len(self.parts) - 1)
        self.expected = WATCH
        return SOUND

    def put(self, part):
        self.parts.append(part)
        self.expected = JOINT
        return SOUND

    # The memory's members stand as the words do in the text, not as the parts end: so the slot is given here.
    def begin(self, part):
        if part.kind in REMEMBERING:
            part.slot = len(self.kinds)
            self.kinds.append(part.kind)
        self.pending.append(part)
        if part.kind in OPENED:
            self.depth += 1
        return TOO_DEEP if self.depth > MOST_OPENED else SOUND

    def end_stronger(self, strength):
        while len(self.pending) > 0 and STRENGTHS[self.pending[-1].kind] > strength:
            part = self.pending.pop()
            if part.kind in OPENED:
                self.depth -= 1
            part.operands.append(len(self.parts) - 1)
            self.parts.append(part)

    def is_whole(self):
        return self.expected == WATCH and len(self.watches) > 0

    def is_too_large(self):
        return len(self.parts) > MOST_PARTS or self.total > MOST_NEEDED_IN_ALL


class Reading:
    # answer is what judge answers; rules is None if that is a refusal.
    def __init__(self, answer, rules):
        self.answer = answer
        self.rules = rules


# A fault is given back as its kind and place, no fault as an empty list.
def fault_of_token(reader, text, start, end):
    if end == start:
        return [UNKNOWN, start]
    if text[start] == "0" and end > start + 1:
        return [UNKNOWN, start + 1]
    if is_letter(text[start]) and end - start > MOST_IN_NAME:
        return [OUT_OF_BOUNDS, start]
    # Of two tokens without a blank between, only a number can be followed by a word.
    if is_letter(text[start]) and start > 0 and is_figure(text[start - 1]):
        return [MISPLACED, start]
    kind = reader.take(text[start:end])
    return [] if kind == SOUND else [kind, start]


def first_fault(reader, text):
    start = skip_blanks(text, 0)
    while start < len(text):
        end = end_of_token(text, start)
        fault = fault_of_token(reader, text, start, end)
        if len(fault) > 0:
            return fault
        start = skip_blanks(text, end)
    if not reader.is_whole():
        return [ENDED, len(text)]
    if reader.is_too_large():
        return [TOO_LARGE, 0]
    return []


def read(row):
    if len(row) > MOST_BYTES:
        return Reading([TOO_LONG], None)
    reader = Reader()
    fault = first_fault(reader, spell(row))
    if len(fault) > 0:
        return Reading([FAULTY] + fault, None)
    return Reading([len(reader.watches)], Rules(reader.parts, reader.watches, reader.kinds))
