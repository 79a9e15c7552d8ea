"""What can be asked of a history."""

from seenhistory.came_about import followed, is_asked, is_write
from seenhistory.explaining import first_but_for, first_in_clients_order, first_in_times_order, first_row
from seenhistory.history import CLIENTS, is_client
from seenhistory.refusals import NO_SUCH, NONE_FOUND, NOT_ASKED

# What show tells in the place of an end where there is none.
NOT_ENDED = -1


def explains_thing(history, thing, late_events):
    """Whether a row explains the operations on this thing in time's order, but for so many events."""
    row = first_row(history.kinds, history.on_thing(thing),
                    lambda one, other: first_but_for(one, other, late_events), CLIENTS)
    return row is not None


def linear(history):
    for thing in range(len(history.kinds)):
        if not explains_thing(history, thing, 0):
            return 0
    return 1


def linear_for_thing(history, thing):
    if not history.has_thing(thing):
        return NO_SUCH
    return 1 if explains_thing(history, thing, 0) else 0


def order(history):
    """How many operations the first row has, then their numbers; or the refusal alone."""
    row = first_row(history.kinds, history.operations, first_in_times_order, CLIENTS)
    if row is None:
        return [NONE_FOUND]
    return [len(row)] + row


def shortest(history):
    for many in range(history.events + 1):
        if linear(history.first_events(many)) == 0:
            return many
    return NONE_FOUND


def serial(history):
    row = first_row(history.kinds, history.operations, first_in_clients_order, CLIENTS)
    return 0 if row is None else 1


def own(history, client):
    if not is_client(client):
        return NO_SUCH
    row = first_row(history.kinds, history.operations, first_in_clients_order, (client,))
    return 0 if row is None else 1


def causal(history):
    if not is_asked(history):
        return NOT_ASKED
    reached = followed(history.operations)
    for client in CLIENTS:
        if not came_about_for(history, client, reached):
            return 0
    return 1


def came_about_for(history, client, reached):
    """Whether a row explains by what came about for this client; reached tells what is followed by what."""
    given = [operation for operation in history.operations if is_write(operation) or operation.client == client]
    row = first_row(history.kinds, given, lambda one, other: reached[(one.number, other.number)], (client,))
    return row is not None


def late(history, thing):
    if not history.has_thing(thing):
        return NO_SUCH
    # But for as many events as there are, no end comes ahead of any beginning: what is not explained then never is.
    if not explains_thing(history, thing, history.events):
        return NONE_FOUND
    events = 0
    while not explains_thing(history, thing, events):
        events += 1
    return events


def blame(history):
    """How many operations there are without each of which linear would be 1, then their numbers."""
    blamed = [operation.number for operation in history.operations if linear(history.without(operation.number)) == 1]
    return [len(blamed)] + blamed


def show(history, number):
    """What is on record of the operation, or the refusal alone."""
    if not history.has_operation(number):
        return [NO_SUCH]
    operation = history.operations[number]
    asked = [operation.client, operation.thing, operation.action, operation.a, operation.b, operation.began]
    if operation.ended is None:
        return asked + [NOT_ENDED]
    return asked + [operation.ended, operation.answer]
