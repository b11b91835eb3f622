"""The calls that change a state.

Each is given a state of its own to change, and answers as the call does: where it answers a refusal,
the caller throws that state away.
"""

from cabinetsdesk.groups import NOBODY, bit, has
from cabinetsdesk.party import Party, right_cares, right_seats, right_wants, right_worth
from cabinetsdesk.refusals import ABSENT, ALREADY, FULL, GOVERNED, IMPOSSIBLE, WRONG
from cabinetsdesk.turns import holders_by_turns
from cabinetsdesk.votes import stands

MOST_PARTIES = 5


def install(state, group):
    state.cabinet = group
    state.holders = holders_by_turns(state, group, NOBODY)


def dismiss(state):
    state.cabinet = NOBODY
    state.holders = []


# The answer of a change that may bring down who governs: 1 it did, 0 it did not.
def settle(state):
    if state.cabinet == NOBODY or stands(state, state.cabinet):
        return [0]
    dismiss(state)
    return [1]


def add_party(state, values):
    wants = (values[1], values[2])
    cares = (values[3], values[4])
    worth = tuple(values[5])
    if not (right_seats(values[0]) and right_wants(wants) and right_cares(cares)):
        return [WRONG]
    if not right_worth(worth, state.offices):
        return [WRONG]
    if state.cabinet != NOBODY:
        return [GOVERNED]
    if len(state.parties) == MOST_PARTIES:
        return [FULL]
    state.parties.append(Party(values[0], wants, cares, worth))
    state.likes.append(0)
    state.hates.append(0)
    return [len(state.parties) - 1]


def set_seats(state, values):
    if not right_seats(values[1]):
        return [WRONG]
    old = state.parties[values[0]]
    state.parties[values[0]] = Party(values[1], old.wants, old.cares, old.worth)
    return settle(state)


def set_wants(state, values):
    wants = (values[1], values[2])
    if not right_wants(wants):
        return [WRONG]
    old = state.parties[values[0]]
    state.parties[values[0]] = Party(old.seats, wants, old.cares, old.worth)
    return settle(state)


def set_cares(state, values):
    cares = (values[1], values[2])
    if not right_cares(cares):
        return [WRONG]
    old = state.parties[values[0]]
    state.parties[values[0]] = Party(old.seats, old.wants, cares, old.worth)
    return settle(state)


def set_worth(state, values):
    worth = tuple(values[1])
    if not right_worth(worth, state.offices):
        return [WRONG]
    old = state.parties[values[0]]
    state.parties[values[0]] = Party(old.seats, old.wants, old.cares, worth)
    return settle(state)


def add_like(state, values):
    if values[0] == values[1]:
        return [WRONG]
    if has(state.likes[values[0]], values[1]):
        return [ALREADY]
    state.likes[values[0]] |= bit(values[1])
    return settle(state)


def add_hate(state, values):
    if values[0] == values[1]:
        return [WRONG]
    if has(state.hates[values[0]], values[1]):
        return [ALREADY]
    state.hates[values[0]] |= bit(values[1])
    state.hates[values[1]] |= bit(values[0])
    return settle(state)


# A like goes one way: what the second thinks of the first stays, but for the hate that was both's.
def forget(state, values):
    one = values[0]
    other = values[1]
    if not has(state.likes[one] | state.hates[one], other):
        return [ABSENT]
    state.likes[one] &= ~bit(other)
    state.hates[one] &= ~bit(other)
    state.hates[other] &= ~bit(one)
    return settle(state)


def form(state, values):
    if state.cabinet != NOBODY:
        return [GOVERNED]
    if not stands(state, values[0]):
        return [IMPOSSIBLE]
    install(state, values[0])
    return [state.offices] + state.holders


def leaves(state, values):
    if not has(state.cabinet, values[0]):
        return [ABSENT]
    rest = state.cabinet - bit(values[0])
    if not stands(state, rest):
        dismiss(state)
        return [1]
    install(state, rest)
    return [0]


def resign(state, values):
    if state.cabinet == NOBODY:
        return [ABSENT]
    gone = state.cabinet
    dismiss(state)
    return [gone]


CHANGES = {
    "party": add_party,
    "seats": set_seats,
    "wants": set_wants,
    "cares": set_cares,
    "worth": set_worth,
    "like": add_like,
    "hate": add_hate,
    "forget": forget,
    "form": form,
    "leaves": leaves,
    "resign": resign,
}


def is_change(name):
    return name in CHANGES


def make_change(state, name, values):
    return CHANGES[name](state, values)
