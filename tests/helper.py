"""Calls written as the interface asks for them, and answers taken apart again."""

from seenhistory.orders import answers

CELL, COUNT, ROW, PILE, SET, LOCK = range(6)

LINEAR = [3]
ORDER = [5]
SHORTEST = [6]
SERIAL = [7]
CAUSAL = [9]
BLAME = [11]


def begin(*kinds):
    return [0, len(kinds)] + list(kinds)


def call(client, thing, operation, a=0, b=0):
    return [1, client, thing, operation, a, b]


def end(client, answer):
    return [2, client, answer]


def thing(number):
    return [4, number]


def own(client):
    return [8, client]


def late(number):
    return [10, number]


def held(*row):
    return [12, len(row)] + list(row)


def play(*row):
    return [13, len(row)] + list(row)


def show(number):
    return [14, number]


def split(numbers):
    """What each call answered, a list for each."""
    parts = []
    at = 0
    while at < len(numbers):
        many = numbers[at]
        part = numbers[at + 1:at + 1 + many]
        assert len(part) == many
        parts.append(part)
        at += 1 + many
    return parts


def said(*calls):
    """What each of these calls answered, a list for each."""
    line = []
    for one in calls:
        line += one
    return split(answers(line))


def last(*calls):
    """What the last of these calls answered."""
    return said(*calls)[-1]


def alone(client, number, operation, a, b, answer):
    """One operation that begins and ends with no event between: two calls."""
    return [call(client, number, operation, a, b), end(client, answer)]
