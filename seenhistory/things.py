"""The kinds of things: what each holds at first, and what its operations answer and leave behind.

What a thing holds is a whole number (cell, count, lock) or a tuple of them (row, pile, set), so that it can be
part of a dict's key.
"""

CELL = 0
COUNT = 1
ROW = 2
PILE = 3
SET = 4

# How many operations each kind has, by the kind's number; the last kind, 5, is a lock.
OPERATIONS = (3, 2, 2, 2, 3, 2)


def is_kind(kind):
    return 0 <= kind < len(OPERATIONS)


def is_action(kind, action):
    return 0 <= action < OPERATIONS[kind]


def held_at_first(kind):
    if kind in (ROW, PILE, SET):
        return ()
    return 0


def all_held_at_first(kinds):
    """What each of the things holds at first: a tuple."""
    return tuple([held_at_first(kind) for kind in kinds])


def do_operation(kinds, held, operation):
    """What the operation answers where the things hold this, and what they hold afterwards: a pair."""
    thing = operation.thing
    step = done(kinds[thing], held[thing], operation.action, operation.a, operation.b)
    return (step[0], held[:thing] + (step[1],) + held[thing + 1:])


def done(kind, held, action, a, b):
    """What a thing of this kind answers to the action, and what it holds afterwards: a pair."""
    if kind == CELL:
        return done_to_cell(held, action, a, b)
    if kind == COUNT:
        return done_to_count(held, action, a)
    if kind == ROW:
        return done_to_row(held, action, a)
    if kind == PILE:
        return done_to_pile(held, action, a)
    if kind == SET:
        return done_to_set(held, action, a)
    return done_to_lock(held, action)


def done_to_cell(held, action, a, b):
    if action == 0:
        return (held, held)
    if action == 1:
        return (0, a)
    if held == a:
        return (1, b)
    return (0, held)


def done_to_count(held, action, a):
    if action == 0:
        return (held, held)
    return (held, held + a)


def done_to_row(held, action, a):
    if action == 0:
        return (0, held + (a,))
    if len(held) == 0:
        return (-1, held)
    return (held[0], held[1:])


def done_to_pile(held, action, a):
    if action == 0:
        return (0, held + (a,))
    if len(held) == 0:
        return (-1, held)
    return (held[-1], held[:-1])


def done_to_set(held, action, a):
    was_in = 1 if a in held else 0
    if action == 0:
        return (was_in, held)
    others = [member for member in held if member != a]
    if action == 1:
        # Sorted, so that sets with the same members are the same tuple.
        return (1 - was_in, tuple(sorted(others + [a])))
    return (was_in, tuple(others))


def done_to_lock(held, action):
    # A lock holds 1 while it is taken, 0 while it is free.
    if action == 0:
        return (1 - held, 1)
    return (held, 0)
