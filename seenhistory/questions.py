"""What can be asked of a history."""

from seenhistory.explaining import first_in_clients_order, first_in_times_order, first_row
from seenhistory.refusals import NO_SUCH, NONE_FOUND


def explains_thing(history, thing):
    given = [operation for operation in history.operations if operation.thing == thing]
    return first_row(history.kinds, given, first_in_times_order) is not None


def linear(history):
    for thing in range(len(history.kinds)):
        if not explains_thing(history, thing):
            return 0
    return 1


def linear_for_thing(history, thing):
    if not history.has_thing(thing):
        return NO_SUCH
    return 1 if explains_thing(history, thing) else 0


def order(history):
    """How many operations the first row has, then their numbers; or the refusal alone."""
    row = first_row(history.kinds, history.operations, first_in_times_order)
    if row is None:
        return [NONE_FOUND]
    return [len(row)] + row


def shortest(history):
    for many in range(history.events + 1):
        if linear(history.first_events(many)) == 0:
            return many
    return NONE_FOUND


def serial(history):
    row = first_row(history.kinds, history.operations, first_in_clients_order)
    return 0 if row is None else 1
