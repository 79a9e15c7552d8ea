"""A history: its things, the operations on them, and the events at which these begin and end."""

from seenhistory.refusals import FULL, NO_SUCH, NOT_NOW
from seenhistory.things import is_action

CLIENTS = (0, 1, 2, 3)
MOST_OPERATIONS = 9


def is_client(client):
    return client in CLIENTS


class Operation:
    """One operation; while it has not ended, its end and its answer are None."""

    def __init__(self, number, client, thing, action, a, b, began):
        self.number = number
        self.client = client
        self.thing = thing
        self.action = action
        self.a = a
        self.b = b
        self.began = began
        self.ended = None
        self.answer = None


class History:
    def __init__(self, kinds):
        self.kinds = tuple(kinds)
        self.operations = []
        self.events = 0

    def has_thing(self, thing):
        return 0 <= thing < len(self.kinds)

    def has_operation(self, number):
        return 0 <= number < len(self.operations)

    def pending(self, client):
        """The client's operation that has not ended, or None."""
        for operation in self.operations:
            if operation.client == client and operation.ended is None:
                return operation
        return None

    def call(self, client, thing, action, a, b):
        """The number of the operation that begins, or a refusal."""
        if not is_client(client) or not self.has_thing(thing) or not is_action(self.kinds[thing], action):
            return NO_SUCH
        if self.pending(client) is not None:
            return NOT_NOW
        number = len(self.operations)
        if number == MOST_OPERATIONS:
            return FULL
        self.operations.append(Operation(number, client, thing, action, a, b, self.events))
        self.events += 1
        return number

    def end(self, client, answer):
        """The number of the operation that ends, or a refusal."""
        if not is_client(client):
            return NO_SUCH
        operation = self.pending(client)
        if operation is None:
            return NOT_NOW
        operation.ended = self.events
        operation.answer = answer
        self.events += 1
        return operation.number

    def on_thing(self, thing):
        """The operations on this thing."""
        return [operation for operation in self.operations if operation.thing == thing]

    def without(self, number):
        """Another history, from which this operation is left out; the others keep their numbers and their events."""
        smaller = History(self.kinds)
        smaller.events = self.events
        smaller.operations = [operation for operation in self.operations if operation.number != number]
        return smaller

    def first_events(self, many):
        """Another history, of this one's first events alone."""
        shorter = History(self.kinds)
        shorter.events = many
        shorter.operations = [known_by(operation, many) for operation in self.operations if operation.began < many]
        return shorter


def known_by(operation, many):
    """A copy of the operation that has ended only if its end is among the first events."""
    known = Operation(operation.number, operation.client, operation.thing, operation.action,
                      operation.a, operation.b, operation.began)
    if operation.ended is not None and operation.ended < many:
        known.ended = operation.ended
        known.answer = operation.answer
    return known
