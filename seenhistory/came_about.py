"""By what came about: of which histories that is asked, and what must come first then."""

from seenhistory.explaining import first_in_clients_order
from seenhistory.things import CELL

READ = 0
WRITE = 1


def is_write(operation):
    return operation.action == WRITE


def is_asked(history):
    """Whether it is told of each read that has ended which one write it has seen, or that it has seen none."""
    if any([kind != CELL for kind in history.kinds]):
        return False
    if any([operation.action not in (READ, WRITE) for operation in history.operations]):
        return False
    written = [(operation.thing, operation.a) for operation in history.operations if is_write(operation)]
    return all([pair[1] != 0 for pair in written]) and len(set(written)) == len(written)


def has_seen(read, write):
    """Whether the one is a read that has ended with what the other, a write, wrote to its cell."""
    if read.action != READ or not is_write(write):
        return False
    return read.ended is not None and read.thing == write.thing and read.answer == write.a


def followed_at_once(one, other):
    return first_in_clients_order(one, other) or has_seen(other, one)


def followed(operations):
    """A dict: of each two numbers whether the first one's operation is followed by the second's, over any steps."""
    reached = {}
    for one in operations:
        for other in operations:
            reached[(one.number, other.number)] = followed_at_once(one, other)
    numbers = [operation.number for operation in operations]
    # With each number in turn as a step between, all ways over several steps are found.
    for between in numbers:
        for one in numbers:
            for other in numbers:
                if reached[(one, between)] and reached[(between, other)]:
                    reached[(one, other)] = True
    return reached
