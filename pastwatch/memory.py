"""The memory's members: what each is at first, behind an entry, and as it is told."""


# No moments, no, an empty row.
def first_member(kind):
    if kind == "before":
        return False
    if kind == "least":
        return ()
    return None


def first_memory(kinds):
    return [first_member(kind) for kind in kinds]


# The latest moments say enough: moments never fall, so an older one is in the window only if these are.
def next_member(part, values, member, moment):
    holds = values[-1]
    if part.kind == "before":
        return holds
    if part.kind == "always":
        return member if holds else moment
    if part.kind == "least":
        return (member + (moment,))[-part.needed:] if holds else member
    if part.kind == "since" and not holds and not values[0]:
        return None
    return moment if holds else member


def told_member(kind, member):
    if kind == "before":
        return [1 if member else 0]
    if kind == "least":
        return [len(member)] + list(member)
    return [0] if member is None else [1, member]


def told_memory(kinds, memory):
    numbers = [len(memory)]
    for kind, member in zip(kinds, memory):
        numbers.extend(told_member(kind, member))
    return numbers
