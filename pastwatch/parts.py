"""What rules are made of, once they are read."""


class Part:
    # operands are places in the rules' row of parts, each ahead of this one's own.
    def __init__(self, kind, operands):
        self.kind = kind
        self.operands = operands
        self.name = ""
        self.needed = 0
        self.span = None
        self.slot = None


class Rules:
    # watches holds, for each watch, the place of its outermost part.
    def __init__(self, parts, watches, beginning):
        self.parts = parts
        self.watches = watches
        self.beginning = beginning


# A member of the memory when there is no entry: no moments, no, an empty row.
def first_member(kind):
    if kind == "before":
        return False
    if kind == "least":
        return ()
    return None
