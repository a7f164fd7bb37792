"""The calls on one watcher: handed in as one list of whole numbers, answered as another."""

from pastwatch.watcher import Watcher

JUDGE = 1
LOAD = 2
ENTRY = 3
WAIT = 4
TOLD = 5
MEMORY = 6
FORGET = 7


class UnknownCall(ValueError):
    pass


# The row whose length stands at the place.
def row_at(calls, place):
    return calls[place + 1:place + 1 + calls[place]]


# The rows whose number stands at the place.
def rows_at(calls, place):
    rows = []
    start = place + 1
    while len(rows) < calls[place]:
        row = row_at(calls, start)
        rows.append(row)
        start += 1 + len(row)
    return rows


def answer_of(watcher, call, numbers, rows):
    if call == JUDGE:
        return watcher.judge(rows[0])
    if call == LOAD:
        return watcher.load(rows[0])
    if call == ENTRY:
        return watcher.entry(numbers[0], rows)
    if call == WAIT:
        return watcher.wait(numbers[0], rows)
    if call == TOLD:
        return watcher.told()
    if call == MEMORY:
        return watcher.tell_memory()
    if call == FORGET:
        return watcher.forget()
    raise UnknownCall(str(call))


def answers(calls):
    watcher = Watcher()
    answered = []
    place = 0
    while place < len(calls):
        call = calls[place]
        numbers = row_at(calls, place + 1)
        place += 2 + len(numbers)
        rows = rows_at(calls, place)
        place += 1 + sum([1 + len(row) for row in rows])
        answer = answer_of(watcher, call, numbers, rows)
        answered.append(len(answer))
        answered.extend(answer)
    return answered
