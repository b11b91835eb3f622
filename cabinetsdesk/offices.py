"""The calls that ask who would choose which office, plainly or looking ahead."""

from cabinetsdesk.answering import counted, counted_pairs
from cabinetsdesk.groups import NOBODY, bit, has, members
from cabinetsdesk.refusals import ABSENT, WRONG
from cabinetsdesk.turns import all_taken, gain, holders_by_turns, turn_order

PLAINLY = 0
AHEAD = 1


# Who looks ahead when all of the group choose that way.
def lookers_of(group, way):
    return group if way == AHEAD else NOBODY


def gains_of(state, group, lookers):
    order = turn_order(state, group)
    taken = all_taken(state, order, [], lookers)
    return [gain(state, order, taken, party) for party in members(state, group)]


# Would the holder of the one office rather have the other one?
def envies(state, holders, one, other):
    worth = state.parties[holders[one]].worth
    return worth[other] > worth[one]


def swapped(state, holders):
    pairs = []
    for one in range(len(holders)):
        for other in range(one + 1, len(holders)):
            if envies(state, holders, one, other) and envies(state, holders, other, one):
                pairs.append((one, other))
    return pairs


def answer_order(state, values):
    return counted(turn_order(state, values[0]))


def answer_plain(state, values):
    return counted(all_taken(state, turn_order(state, values[0]), [], NOBODY))


def answer_ahead(state, values):
    return counted(all_taken(state, turn_order(state, values[0]), [], values[0]))


def answer_alone(state, values):
    group = values[0]
    party = values[1]
    if not has(group, party):
        return [ABSENT]
    order = turn_order(state, group)
    endings = [all_taken(state, order, [], lookers) for lookers in (bit(party), NOBODY)]
    return [gain(state, order, taken, party) for taken in endings]


def answer_gains(state, values):
    if values[1] not in (PLAINLY, AHEAD):
        return [WRONG]
    return counted(gains_of(state, values[0], lookers_of(values[0], values[1])))


def answer_swaps(state, values):
    if values[1] not in (PLAINLY, AHEAD):
        return [WRONG]
    return counted_pairs(swapped(state, holders_by_turns(state, values[0], lookers_of(values[0], values[1]))))


OFFICE_CALLS = {
    "order": answer_order,
    "plain": answer_plain,
    "ahead": answer_ahead,
    "alone": answer_alone,
    "gains": answer_gains,
    "swaps": answer_swaps,
}


def is_office_call(name):
    return name in OFFICE_CALLS


def answer_office_call(state, name, values):
    return OFFICE_CALLS[name](state, values)
