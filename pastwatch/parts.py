"""What rules are made of, once they are read."""


class Part:
    # operands are places in the rules' row of parts, each ahead of this one's own.
    def __init__(self, kind, operands):
        self.kind = kind
        self.operands = operands
        self.name = ""
        self.needed = 0
        self.span = None
        self.slot = None


class Rules:
    # watches holds, for each watch, the place of its outermost part;
    # kinds holds, for each member of the memory, the word that it stands for.
    def __init__(self, parts, watches, kinds):
        self.parts = parts
        self.watches = watches
        self.kinds = kinds
