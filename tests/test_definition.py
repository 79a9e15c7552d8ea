"""Many small histories, answered as the document's words define it: by trying all rows there are."""

import itertools
import random
import unittest

from tests.helper import (BLAME, CAUSAL, LINEAR, ORDER, SERIAL, SHORTEST, begin, call, end, held, late, own, play, said,
                          show, thing)

OPERATIONS = (3, 2, 2, 2, 3, 2)


class Model:
    """A thing that is changed in place, written apart from the program's own."""

    def __init__(self, kind):
        self.kind = kind
        self.number = 0
        self.several = []

    def do(self, operation, a, b):
        return getattr(self, ("cell", "count", "line", "line", "several_apart", "lock")[self.kind])(operation, a, b)

    def cell(self, operation, a, b):
        before = self.number
        if operation == 1 or operation == 2 and before == a:
            self.number = a if operation == 1 else b
        return (before, 0, int(before == a))[operation]

    def count(self, operation, a, b):
        before = self.number
        self.number += a * operation
        return before

    def line(self, operation, a, b):
        if operation == 0:
            self.several.append(a)
            return 0
        return self.several.pop(0 if self.kind == 2 else -1) if self.several else -1

    def several_apart(self, operation, a, b):
        inside = a in self.several
        if operation == 1 and not inside:
            self.several.append(a)
        if operation == 2 and inside:
            self.several.remove(a)
        return int(inside != (operation == 1))

    def lock(self, operation, a, b):
        before = self.number
        self.number = 1 - operation
        return int(before == operation)


def explains(kinds, given, row, must, counted=range(4)):
    """Whether the row of given operations explains them; operations are dicts, counted are clients."""
    if any(one["end"] is not None and one not in row for one in given):
        return False
    for place, one in enumerate(row):
        if any(must(other, one) and other not in row[:place] for other in given):
            return False
    models = [Model(kind) for kind in kinds]
    for one in row:
        answer = models[one["thing"]].do(*one["what"])
        if one["end"] is not None and one["client"] in counted and answer != one["answer"]:
            return False
    return True


def all_rows_of(given):
    for many in range(len(given) + 1):
        for row in itertools.permutations(given, many):
            yield list(row)


def rows(kinds, given, must):
    return sorted([one["number"] for one in row] for row in all_rows_of(given) if explains(kinds, given, row, must))


def is_explained(kinds, given, must, counted=range(4)):
    return int(any(explains(kinds, given, row, must, counted) for row in all_rows_of(given)))


def in_time(one, other):
    same = one["client"] == other["client"] and one["begin"] < other["begin"]
    return same or one["end"] is not None and one["end"] < other["begin"]


def in_time_but_for(events):
    return lambda one, other: (by_client(one, other)
                               or one["end"] is not None and one["end"] + events < other["begin"])


def by_client(one, other):
    return one["client"] == other["client"] and one["begin"] < other["begin"]


def things_in_order(kinds, operations):
    return [int(bool(rows(kinds, [one for one in operations if one["thing"] == number], in_time)))
            for number in range(len(kinds))]


def cut(operations, many):
    kept = []
    for one in operations:
        if one["begin"] < many:
            known = one["end"] is not None and one["end"] < many
            kept.append(dict(one, end=one["end"] if known else None))
    return kept


def expected(kinds, operations, events):
    by_thing = things_in_order(kinds, operations)
    all_rows = rows(kinds, operations, in_time)
    first = [len(all_rows[0])] + all_rows[0] if all_rows else [-3]
    failing = [many for many in range(events + 1) if not all(things_in_order(kinds, cut(operations, many)))]
    return ([[int(all(by_thing))]] + [[told] for told in by_thing]
            + [first, [min(failing) if failing else -3], [int(bool(rows(kinds, operations, by_client)))]])


def expected_own(kinds, operations):
    return [[is_explained(kinds, operations, by_client, [client])] for client in range(4)]


def at_once(one, other):
    if by_client(one, other):
        return True
    return (one["what"][0] == 1 and other["what"][0] == 0 and one["thing"] == other["thing"]
            and other["end"] is not None and other["answer"] == one["what"][1])


def over_steps(operations):
    """A rule: by ways from one operation to the next, gone as far as they lead."""
    behind = {}
    for one in operations:
        found = []
        waiting = [other for other in operations if at_once(one, other)]
        while waiting:
            other = waiting.pop()
            if other["number"] not in found:
                found.append(other["number"])
                waiting += [further for further in operations if at_once(other, further)]
        behind[one["number"]] = found
    return lambda one, other: other["number"] in behind[one["number"]]


def expected_causal(kinds, operations):
    written = [(one["thing"], one["what"][1]) for one in operations if one["what"][0] == 1]
    if any(kinds) or any(one["what"][0] == 2 for one in operations) or any(a == 0 for number, a in written):
        return [-6]
    if any(written.count(one) > 1 for one in written):
        return [-6]
    must = over_steps(operations)
    for client in range(4):
        given = [one for one in operations if one["what"][0] == 1 or one["client"] == client]
        if not is_explained(kinds, given, must, [client]):
            return [0]
    return [1]


def expected_late(kinds, operations, events, number):
    given = [one for one in operations if one["thing"] == number]
    for many in range(events + 1):
        if is_explained(kinds, given, in_time_but_for(many)):
            return [many]
    return [-3]


def expected_blame(kinds, operations):
    blamed = [one["number"] for one in operations
              if all(things_in_order(kinds, [other for other in operations if other is not one]))]
    return [len(blamed)] + blamed


def expected_play(kinds, operations, row):
    if len(set(row)) < len(row) or any(number >= len(operations) for number in row):
        return [-1]
    models = [Model(kind) for kind in kinds]
    return [models[operations[number]["thing"]].do(*operations[number]["what"]) for number in row]


def expected_held(kinds, operations, row):
    if len(set(row)) < len(row) or any(number >= len(operations) for number in row):
        return [-1]
    if any(one["end"] is not None and one["number"] not in row for one in operations):
        return [-1]
    answers = expected_play(kinds, operations, row)
    wrong = []
    for place, number in enumerate(row):
        one = operations[number]
        if any(in_time(other, one) and other["number"] not in row[:place] for other in operations):
            wrong.append((place, 0, -2))
        if one["end"] is not None and one["answer"] != answers[place]:
            wrong.append((place, 1, -3))
    return [min(wrong)[2], min(wrong)[0]] if wrong else [0]


def expected_show(operations, number):
    if number >= len(operations):
        return [-1]
    one = operations[number]
    ended = [-1] if one["end"] is None else [one["end"], one["answer"]]
    return [one["client"], one["thing"], *one["what"], one["begin"]] + ended


class Maker:
    """A history at random, the calls that make it, and the same history in the words of this test."""

    def __init__(self, chance, most):
        self.chance = chance
        self.kinds = self.some_kinds()
        self.operations = []
        self.happened = []
        for step in range(chance.choice((1, most, 2 * most, 3 * most, 4 * most))):
            self.step(most)
        self.events = len(self.happened)
        self.answer()
        self.calls = [begin(*self.kinds)] + [self.written(*event) for event in self.happened]

    def some_kinds(self):
        return [self.chance.randrange(6) for one in range(self.chance.choice((1, 1, 2, 3)))]

    def something(self, number):
        """An operation on this thing, and what is handed over."""
        return (self.chance.randrange(OPERATIONS[self.kinds[number]]), self.chance.randrange(3),
                self.chance.randrange(3))

    def step(self, most):
        client = self.chance.randrange(4)
        pending = [one for one in self.operations if one["client"] == client and one["end"] is None]
        if pending:
            pending[0]["end"] = len(self.happened)
            self.happened.append((end, pending[0]))
        elif len(self.operations) < most:
            number = self.chance.randrange(len(self.kinds))
            begun = {"number": len(self.operations), "client": client, "thing": number, "what": self.something(number),
                     "begin": len(self.happened), "end": None, "answer": None}
            self.operations.append(begun)
            self.happened.append((call, begun))

    def answer(self):
        """Answers as a row of the operations gives them, and now and then one at random.

        The row is in the order of beginnings, or any row in clients' order: of answers at random alone hardly any
        history would be in order.
        """
        models = [Model(kind) for kind in self.kinds]
        clients = [one["client"] for one in self.operations]
        if self.chance.random() < 0.6:
            self.chance.shuffle(clients)
        waiting = list(self.operations)
        for client in clients:
            one = [other for other in waiting if other["client"] == client][0]
            waiting.remove(one)
            one["answer"] = models[one["thing"]].do(*one["what"])
            if self.chance.random() < 0.1:
                one["answer"] = self.chance.randrange(-1, 4)

    def written(self, kind_of_event, one):
        if kind_of_event == call:
            return call(one["client"], one["thing"], *one["what"])
        return end(one["client"], one["answer"])


class CellMaker(Maker):
    """A history of which causal is asked, as a rule; what reads answer is any that is written to their cell."""

    def some_kinds(self):
        return [0] * self.chance.choice((1, 2, 2, 3))

    def something(self, number):
        if self.chance.random() < 0.01:
            return (self.chance.randrange(3), 0, 0)
        return (self.chance.randrange(2), 1 + len(self.operations), 0)

    def answer(self):
        for one in self.operations:
            written = [other["what"][1] for other in self.operations
                       if other["what"][0] == 1 and other["thing"] == one["thing"] and self.is_fit(other, one)]
            if one["what"][0] == 0 and written and self.chance.random() < 0.8:
                one["answer"] = self.chance.choice(written)
            else:
                one["answer"] = 0

    def is_fit(self, write, read):
        """Mostly, a read tells what was written by another, so that not all is wrong by one client alone."""
        return write["client"] != read["client"] or self.chance.random() < 0.2


class Definition(unittest.TestCase):
    def check(self, seed, most):
        made = Maker(random.Random(seed), most)
        questions = [LINEAR] + [thing(number) for number in range(len(made.kinds))] + [ORDER, SHORTEST, SERIAL]
        with self.subTest(seed=seed, calls=made.calls):
            told = said(*made.calls, *questions)[len(made.calls):]
            self.assertEqual(told, expected(made.kinds, made.operations, made.events))
        return tuple(told[0] + told[-1])

    def test_as_all_rows_tell(self):
        seen = [self.check(seed, 4) for seed in range(3000)] + [self.check(seed, 5) for seed in range(5000, 5300)]
        for outcome in ((1, 1), (0, 1), (0, 0)):
            self.assertGreater(seen.count(outcome), 100)


class DefinitionOfTheOthers(unittest.TestCase):
    """own, causal, late, blame, held, play and show."""

    def check(self, made, each, questions):
        """Each question answers what is expected; what they answered is given back."""
        told = said(*made.calls, *questions)[len(made.calls):]
        with self.subTest(calls=made.calls, questions=questions):
            self.assertEqual(told, each)
        return told

    def test_own(self):
        seen = []
        for seed in range(700):
            made = Maker(random.Random(seed), 4)
            seen += self.check(made, expected_own(made.kinds, made.operations), [own(client) for client in range(4)])
        for outcome in ([0], [1]):
            self.assertGreater(seen.count(outcome), 30)

    def test_causal(self):
        seen = []
        for seed in range(1500):
            made = CellMaker(random.Random(seed), 5)
            seen += self.check(made, [expected_causal(made.kinds, made.operations)], [CAUSAL])
        for seed in range(500):
            made = Maker(random.Random(seed), 4)
            seen += self.check(made, [expected_causal(made.kinds, made.operations)], [CAUSAL])
        for outcome in ([0], [1], [-6]):
            self.assertGreater(seen.count(outcome), 100)

    def test_late(self):
        seen = []
        for seed in range(1200):
            made = Maker(random.Random(seed), 4)
            things = range(len(made.kinds))
            seen += self.check(made, [expected_late(made.kinds, made.operations, made.events, number)
                                      for number in things], [late(number) for number in things])
        for outcome in ([-3], [0], [1], [2]):
            self.assertGreater(seen.count(outcome), 10)

    def test_blame(self):
        seen = [0] * 5
        for seed in range(1200):
            made = Maker(random.Random(seed), 4)
            seen[self.check(made, [expected_blame(made.kinds, made.operations)], [BLAME])[0][0]] += 1
        for outcome in range(5):
            self.assertGreater(seen[outcome], 20)

    def some_row(self, chance, made):
        """A row of all operations, most of the time, or of any numbers."""
        if chance.random() < 0.1:
            return [chance.randrange(len(made.operations) + 1) for place in range(chance.randrange(6))]
        row = [one["number"] for one in made.operations
               if one["end"] is not None or chance.random() < 0.5 or one["number"] == chance.randrange(20)]
        if chance.random() < 0.7:
            chance.shuffle(row)
        return row

    def test_held_and_play(self):
        seen = []
        for seed in range(3000):
            chance = random.Random(seed)
            made = Maker(chance, 7)
            row = self.some_row(chance, made)
            told = self.check(made, [expected_held(made.kinds, made.operations, row),
                                     expected_play(made.kinds, made.operations, row)], [held(*row), play(*row)])
            seen.append(told[0])
        for outcome in ([0], [-1], [-2, 0], [-2, 1], [-2, 2], [-3, 0], [-3, 1], [-3, 2]):
            self.assertGreater(seen.count(outcome), 20)

    def test_show(self):
        for seed in range(500):
            made = Maker(random.Random(seed), 9)
            self.check(made, [expected_show(made.operations, number) for number in range(10)],
                       [show(number) for number in range(10)])


class Likewise(unittest.TestCase):
    def test_larger_histories_agree_with_themselves(self):
        """linear, order and shortest tell the same story, and what is linear is serial."""
        for seed in range(2000):
            made = Maker(random.Random(seed), 9)
            with self.subTest(seed=seed, calls=made.calls):
                linear, order, shortest, serial = said(*made.calls, LINEAR, ORDER, SHORTEST, SERIAL)[-4:]
                self.assertEqual(order != [-3], linear == [1])
                self.assertEqual(shortest == [-3], linear == [1])
                self.assertGreaterEqual(serial, linear)

    def test_the_others_agree_with_these(self):
        """What is linear is late by 0, what is serial is in order for each client, and the first row holds."""
        for seed in range(1000):
            made = Maker(random.Random(seed), 9)
            things = range(len(made.kinds))
            with self.subTest(seed=seed, calls=made.calls):
                linear, order, serial, *told = said(*made.calls, LINEAR, ORDER, SERIAL, *map(own, range(4)),
                                                    *map(late, things))[len(made.calls):]
                self.assertEqual(linear == [1], all(one == [0] for one in told[4:]))
                self.assertTrue(serial == [0] or told[:4] == [[1]] * 4)
                if order != [-3]:
                    self.assertEqual(said(*made.calls, held(*order[1:]))[-1], [0])

    def test_what_is_serial_is_causal(self):
        for seed in range(1000):
            made = CellMaker(random.Random(seed), 9)
            serial, causal = said(*made.calls, SERIAL, CAUSAL)[-2:]
            self.assertTrue(causal != [0] or serial == [0], made.calls)
