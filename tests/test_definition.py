"""Many small histories, answered as the document's words define it: by trying all rows there are."""

import itertools
import random
import unittest

from tests.helper import LINEAR, ORDER, SERIAL, SHORTEST, begin, call, end, said, thing

OPERATIONS = (3, 2, 2, 2, 3, 2)


class Model:
    """A thing that is changed in place, written apart from the program's own."""

    def __init__(self, kind):
        self.kind = kind
        self.number = 0
        self.several = []

    def do(self, operation, a, b):
        return getattr(self, ("cell", "count", "line", "line", "several_apart", "lock")[self.kind])(operation, a, b)

    def cell(self, operation, a, b):
        before = self.number
        if operation == 1 or operation == 2 and before == a:
            self.number = a if operation == 1 else b
        return (before, 0, int(before == a))[operation]

    def count(self, operation, a, b):
        before = self.number
        self.number += a * operation
        return before

    def line(self, operation, a, b):
        if operation == 0:
            self.several.append(a)
            return 0
        return self.several.pop(0 if self.kind == 2 else -1) if self.several else -1

    def several_apart(self, operation, a, b):
        inside = a in self.several
        if operation == 1 and not inside:
            self.several.append(a)
        if operation == 2 and inside:
            self.several.remove(a)
        return int(inside != (operation == 1))

    def lock(self, operation, a, b):
        before = self.number
        self.number = 1 - operation
        return int(before == operation)


def explains(kinds, given, row, must):
    """Whether the row of given operations explains them; operations are dicts."""
    if any(one["end"] is not None and one not in row for one in given):
        return False
    for place, one in enumerate(row):
        if any(must(other, one) and other not in row[:place] for other in given):
            return False
    models = [Model(kind) for kind in kinds]
    for one in row:
        answer = models[one["thing"]].do(*one["what"])
        if one["end"] is not None and answer != one["answer"]:
            return False
    return True


def rows(kinds, given, must):
    found = []
    for many in range(len(given) + 1):
        for row in itertools.permutations(given, many):
            if explains(kinds, given, list(row), must):
                found.append([one["number"] for one in row])
    return sorted(found)


def in_time(one, other):
    same = one["client"] == other["client"] and one["begin"] < other["begin"]
    return same or one["end"] is not None and one["end"] < other["begin"]


def by_client(one, other):
    return one["client"] == other["client"] and one["begin"] < other["begin"]


def things_in_order(kinds, operations):
    return [int(bool(rows(kinds, [one for one in operations if one["thing"] == number], in_time)))
            for number in range(len(kinds))]


def cut(operations, many):
    kept = []
    for one in operations:
        if one["begin"] < many:
            known = one["end"] is not None and one["end"] < many
            kept.append(dict(one, end=one["end"] if known else None))
    return kept


def expected(kinds, operations, events):
    by_thing = things_in_order(kinds, operations)
    all_rows = rows(kinds, operations, in_time)
    first = [len(all_rows[0])] + all_rows[0] if all_rows else [-3]
    failing = [many for many in range(events + 1) if not all(things_in_order(kinds, cut(operations, many)))]
    return ([[int(all(by_thing))]] + [[told] for told in by_thing]
            + [first, [min(failing) if failing else -3], [int(bool(rows(kinds, operations, by_client)))]])


class Maker:
    """A history at random, the calls that make it, and the same history in the words of this test."""

    def __init__(self, chance, most):
        self.chance = chance
        self.kinds = [chance.randrange(6) for one in range(chance.choice((1, 1, 2, 3)))]
        self.operations = []
        self.happened = []
        for step in range(chance.choice((1, most, 2 * most, 3 * most, 4 * most))):
            self.step(most)
        self.events = len(self.happened)
        self.answer()
        self.calls = [begin(*self.kinds)] + [self.written(*event) for event in self.happened]

    def step(self, most):
        client = self.chance.randrange(4)
        pending = [one for one in self.operations if one["client"] == client and one["end"] is None]
        if pending:
            pending[0]["end"] = len(self.happened)
            self.happened.append((end, pending[0]))
        elif len(self.operations) < most:
            number = self.chance.randrange(len(self.kinds))
            what = (self.chance.randrange(OPERATIONS[self.kinds[number]]), self.chance.randrange(3),
                    self.chance.randrange(3))
            begun = {"number": len(self.operations), "client": client, "thing": number, "what": what,
                     "begin": len(self.happened), "end": None, "answer": None}
            self.operations.append(begun)
            self.happened.append((call, begun))

    def answer(self):
        """Answers as a row of the operations gives them, and now and then one at random.

        The row is in the order of beginnings, or any row in clients' order: of answers at random alone hardly any
        history would be in order.
        """
        models = [Model(kind) for kind in self.kinds]
        clients = [one["client"] for one in self.operations]
        if self.chance.random() < 0.6:
            self.chance.shuffle(clients)
        waiting = list(self.operations)
        for client in clients:
            one = [other for other in waiting if other["client"] == client][0]
            waiting.remove(one)
            one["answer"] = models[one["thing"]].do(*one["what"])
            if self.chance.random() < 0.1:
                one["answer"] = self.chance.randrange(-1, 4)

    def written(self, kind_of_event, one):
        if kind_of_event == call:
            return call(one["client"], one["thing"], *one["what"])
        return end(one["client"], one["answer"])


class Definition(unittest.TestCase):
    def check(self, seed, most):
        made = Maker(random.Random(seed), most)
        questions = [LINEAR] + [thing(number) for number in range(len(made.kinds))] + [ORDER, SHORTEST, SERIAL]
        with self.subTest(seed=seed, calls=made.calls):
            told = said(*made.calls, *questions)[len(made.calls):]
            self.assertEqual(told, expected(made.kinds, made.operations, made.events))
        return tuple(told[0] + told[-1])

    def test_as_all_rows_tell(self):
        seen = [self.check(seed, 4) for seed in range(3000)] + [self.check(seed, 5) for seed in range(5000, 5300)]
        for outcome in ((1, 1), (0, 1), (0, 0)):
            self.assertGreater(seen.count(outcome), 100)


class Likewise(unittest.TestCase):
    def test_larger_histories_agree_with_themselves(self):
        """linear, order and shortest tell the same story, and what is linear is serial."""
        for seed in range(2000):
            made = Maker(random.Random(seed), 9)
            with self.subTest(seed=seed, calls=made.calls):
                linear, order, shortest, serial = said(*made.calls, LINEAR, ORDER, SHORTEST, SERIAL)[-4:]
                self.assertEqual(order != [-3], linear == [1])
                self.assertEqual(shortest == [-3], linear == [1])
                self.assertGreaterEqual(serial, linear)
