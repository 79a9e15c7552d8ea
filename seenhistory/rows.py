"""Rows of operations that are handed over: what they answer, and whether they explain."""

from seenhistory.explaining import first_in_times_order
from seenhistory.refusals import NO_SUCH, OTHER_ANSWER, TOO_EARLY
from seenhistory.things import all_held_at_first, do_operation


def play(history, row):
    """What the row's operations answer, or the refusal alone."""
    if not is_of(history, row):
        return [NO_SUCH]
    return told_by(history, row)


def held(history, row):
    """0 alone if the row explains all operations in time's order; else the refusal, with a place where it has one."""
    if not is_of(history, row) or not has_all_ended(history, row):
        return [NO_SUCH]
    told = told_by(history, row)
    for place, number in enumerate(row):
        operation = history.operations[number]
        if not stands_behind_all(history, operation, row[:place]):
            return [TOO_EARLY, place]
        if operation.ended is not None and told[place] != operation.answer:
            return [OTHER_ANSWER, place]
    return [0]


def is_of(history, row):
    """Whether the row has only operations that there are, and each once at the most."""
    return all([history.has_operation(number) for number in row]) and len(set(row)) == len(row)


def has_all_ended(history, row):
    return all([operation.ended is None or operation.number in row for operation in history.operations])


def stands_behind_all(history, operation, before):
    """Whether all that must come ahead of the operation in time's order are among the numbers before it."""
    must = [other for other in history.operations if first_in_times_order(other, operation)]
    return all([other.number in before for other in must])


def told_by(history, row):
    """What the operations answer, done one behind the other, the things being as at first."""
    told = []
    state = all_held_at_first(history.kinds)
    for number in row:
        step = do_operation(history.kinds, state, history.operations[number])
        told.append(step[0])
        state = step[1]
    return told
