"""A list of calls, read and answered."""

from seenhistory.history import History
from seenhistory.questions import (blame, causal, late, linear, linear_for_thing, order, own, serial, shortest,
                                    show)
from seenhistory.refusals import NO_HISTORY, NO_SUCH
from seenhistory.rows import held, play
from seenhistory.things import is_kind

BEGIN = 0
CALL = 1
END = 2
LINEAR = 3
THING = 4
ORDER = 5
SHORTEST = 6
SERIAL = 7
OWN = 8
CAUSAL = 9
LATE = 10
HELD = 12
# blame (11), play (13) and show (14) need no name: each is what is left when those with as much handed over are told.

# How many whole numbers each call has, by the call's number.
NUMBERS = (0, 5, 2, 0, 1, 0, 0, 0, 1, 0, 1, 0, 0, 0, 1)
# The calls that have a list behind these: begin, held and play.
WITH_LIST = (0, 12, 13)

MOST_THINGS = 3


def answers(calls):
    """For each call, in order, how many numbers it answers, then these."""
    history = None
    given_back = []
    at = 0
    while at < len(calls):
        past = end_of_call(calls, at)
        call = calls[at:past]
        at = past
        if call[0] == BEGIN and are_kinds(call[2:]):
            history = History(call[2:])
            said = [0]
        elif call[0] == BEGIN:
            said = [NO_SUCH]
        elif history is None:
            said = [NO_HISTORY]
        else:
            said = answer_of(history, call)
        given_back.append(len(said))
        given_back.extend(said)
    return given_back


def end_of_call(calls, at):
    """The place behind the call that begins at this place."""
    past = at + 1 + NUMBERS[calls[at]]
    if calls[at] in WITH_LIST:
        past += 1 + calls[past]
    return past


def are_kinds(kinds):
    """Whether a history can have things of these kinds."""
    return 1 <= len(kinds) <= MOST_THINGS and all([is_kind(kind) for kind in kinds])


def answer_of(history, call):
    """What a call other than begin answers: a list of numbers."""
    name = call[0]
    if name == CALL:
        return [history.call(call[1], call[2], call[3], call[4], call[5])]
    if name == END:
        return [history.end(call[1], call[2])]
    if name in WITH_LIST:
        return answer_about_row(history, name, call[2:])
    if NUMBERS[name] == 1:
        return answer_about_one(history, name, call[1])
    return answer_about_all(history, name)


def answer_about_row(history, name, row):
    """What held or play answers."""
    if name == HELD:
        return held(history, row)
    return play(history, row)


def answer_about_one(history, name, number):
    """What a call answers that has one number: a thing's, a client's or an operation's."""
    if name == THING:
        return [linear_for_thing(history, number)]
    if name == OWN:
        return [own(history, number)]
    if name == LATE:
        return [late(history, number)]
    return show(history, number)


def answer_about_all(history, name):
    """What a call answers to which nothing is handed over."""
    if name == LINEAR:
        return [linear(history)]
    if name == ORDER:
        return order(history)
    if name == SHORTEST:
        return [shortest(history)]
    if name == SERIAL:
        return [serial(history)]
    if name == CAUSAL:
        return [causal(history)]
    return blame(history)
