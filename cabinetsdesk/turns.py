"""Offices, chosen by turns."""

from cabinetsdesk.groups import members


# The quotients are compared crosswise, so that nothing is lost by dividing.
def sooner(state, had, one, other):
    return state.parties[one].seats * (had[other] + 1) > state.parties[other].seats * (had[one] + 1)


def whose_turn(state, group, had):
    parties = members(state, group)
    chosen = parties[0]
    for party in parties:
        if sooner(state, had, party, chosen):
            chosen = party
    return chosen


def turn_order(state, group):
    had = [0 for party in state.parties]
    order = []
    while len(order) < state.offices:
        party = whose_turn(state, group, had)
        had[party] += 1
        order.append(party)
    return order


# max gives the first of like ones, and the offices come rising.
def plain_choice(worth, holders):
    free = [office for office, holder in enumerate(holders) if holder is None]
    return max(free, key=lambda office: worth[office])


def plain_holders(state, group):
    holders = [None for turn in range(state.offices)]
    for party in turn_order(state, group):
        holders[plain_choice(state.parties[party].worth, holders)] = party
    return holders
