"""Rows that explain operations: the rules for what must come first, and the search for the first such row."""

from seenhistory.things import all_held_at_first, do_operation


def first_in_clients_order(one, other):
    """Whether one must come before other in clients' order."""
    return one.client == other.client and one.began < other.began


def first_but_for(one, other, events):
    """Whether one must come before other in time's order, but for so many events."""
    if first_in_clients_order(one, other):
        return True
    return one.ended is not None and one.ended + events < other.began


def first_in_times_order(one, other):
    """Whether one must come before other in time's order."""
    return first_but_for(one, other, 0)


def first_row(kinds, given, rule, counted):
    """Of all rows that explain the given operations by the rule the first one, as numbers; None without any.

    The given operations stand in the order of their numbers; counted are the clients whose answers count.
    """
    search = Search(kinds, given, rule, counted)
    return search.first_from([], 0, all_held_at_first(kinds))


def mark(operations):
    """One whole number for several operations: the bit of each one's number is set."""
    marked = 0
    for operation in operations:
        marked |= 1 << operation.number
    return marked


class Search:
    def __init__(self, kinds, given, rule, counted):
        self.kinds = kinds
        self.given = given
        self.counted = counted
        self.ended = mark([operation for operation in given if operation.ended is not None])
        self.needed = {}
        for operation in given:
            self.needed[operation.number] = mark([other for other in given if rule(other, operation)])
        # What can still follow depends on nothing but the operations done and what the things hold then, so
        # from where one row could not be completed no other can.
        self.hopeless = {}

    def first_from(self, row, placed, held):
        """The first row that explains and begins with this one, or None; placed marks what stands in this one."""
        if placed & self.ended == self.ended:
            return row
        if (placed, held) in self.hopeless:
            return None
        for operation in self.given:
            if self.may_follow(operation, placed):
                found = self.first_with(operation, row, placed, held)
                if found is not None:
                    return found
        self.hopeless[(placed, held)] = True
        return None

    def may_follow(self, operation, placed):
        needed = self.needed[operation.number]
        return placed & (1 << operation.number) == 0 and placed & needed == needed

    def first_with(self, operation, row, placed, held):
        """The first row that explains and begins with this one and the operation behind it, or None."""
        step = do_operation(self.kinds, held, operation)
        if self.must_answer(operation) and step[0] != operation.answer:
            return None
        return self.first_from(row + [operation.number], placed | (1 << operation.number), step[1])

    def must_answer(self, operation):
        """Whether the operation may stand only where it answers what it did."""
        return operation.ended is not None and operation.client in self.counted
