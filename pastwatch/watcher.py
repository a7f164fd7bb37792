"""The object that has rules and follows a row of entries."""

from pastwatch.holding import follow
from pastwatch.memory import first_memory
from pastwatch.memory import told_memory
from pastwatch.reader import read
from pastwatch.words import spell

BAD_MOMENT = -1
NO_RULES = -3
TOO_EARLY = -5
TOO_MANY = -7
NO_REFUSAL = 0
DONE = 0

FARTHEST_MOMENT = 9007199254740992
MOST_ENTRIES = 1000000


def spell_names(names):
    held = {}
    for name in names:
        held[spell(name)] = True
    return held


class Watcher:
    def __init__(self):
        self.rules = None
        self.memory = []
        self.entries = 0
        self.last = 0
        self.answer = 0

    def judge(self, row):
        return read(row).answer

    def load(self, row):
        reading = read(row)
        if reading.rules is not None:
            self.rules = reading.rules
            self.restart()
        return reading.answer

    def restart(self):
        self.memory = first_memory(self.rules.kinds)
        self.entries = 0
        self.last = 0
        self.answer = 0

    def entry(self, moment, names):
        refusal = self.refusal_at(moment)
        if refusal != NO_REFUSAL:
            return [refusal]
        self.answer = follow(self.rules, self.memory, moment, spell_names(names))
        self.entries += 1
        self.last = moment
        return [self.answer]

    def wait(self, moment, names):
        refusal = self.refusal_at(moment)
        if refusal != NO_REFUSAL:
            return [refusal]
        return [follow(self.rules, list(self.memory), moment, spell_names(names))]

    def told(self):
        if self.rules is None:
            return [NO_RULES]
        if self.entries == 0:
            return [DONE, 0]
        return [DONE, self.entries, self.last, self.answer]

    def tell_memory(self):
        if self.rules is None:
            return [NO_RULES]
        return told_memory(self.rules.kinds, self.memory)

    def forget(self):
        if self.rules is None:
            return [NO_RULES]
        self.restart()
        return [DONE]

    def refusal_at(self, moment):
        if self.rules is None:
            return NO_RULES
        if moment < -FARTHEST_MOMENT or moment > FARTHEST_MOMENT:
            return BAD_MOMENT
        if self.entries > 0 and moment < self.last:
            return TOO_EARLY
        if self.entries >= MOST_ENTRIES:
            return TOO_MANY
        return NO_REFUSAL
