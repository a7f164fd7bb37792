"""What holds at an entry, told from the memory of the entries ahead of it."""

from pastwatch.memory import next_member


def is_near(part, moment, past):
    return part.span is None or moment - past <= part.span


def holds_by_itself(part, values, names):
    if part.kind == "yes":
        return True
    if part.kind == "no":
        return False
    if part.kind == "name":
        return part.name in names
    if part.kind == "not":
        return not values[0]
    if part.kind == "and":
        return all(values)
    if part.kind == "or":
        return any(values)
    return not values[0] or values[1]


def holds_by_memory(part, values, memory, moment):
    earlier = memory[part.slot]
    member = next_member(part, values, earlier, moment)
    memory[part.slot] = member
    if part.kind == "before":
        return earlier
    if part.kind == "least":
        return len(member) == part.needed and is_near(part, moment, member[0])
    found = member is not None and is_near(part, moment, member)
    return not found if part.kind == "always" else found


def number_of_bits(bits):
    number = 0
    worth = 1
    for bit in bits:
        if bit:
            number += worth
        worth += worth
    return number


# Brings the memory it is given up to this entry.
def follow(rules, memory, moment, names):
    holds = []
    for part in rules.parts:
        values = [holds[place] for place in part.operands]
        if part.slot is None:
            holds.append(holds_by_itself(part, values, names))
        else:
            holds.append(holds_by_memory(part, values, memory, moment))
    return number_of_bits([holds[place] for place in rules.watches])
