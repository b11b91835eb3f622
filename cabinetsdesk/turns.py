"""Offices, chosen by turns."""

from cabinetsdesk.groups import has, members


# The quotients are compared crosswise, so that nothing is lost by dividing.
def sooner(state, had, one, other):
    return state.parties[one].seats * (had[other] + 1) > state.parties[other].seats * (had[one] + 1)


def whose_turn(state, parties, had):
    chosen = parties[0]
    for party in parties:
        if sooner(state, had, party, chosen):
            chosen = party
    return chosen


def turn_order(state, group):
    parties = members(state, group)
    had = [0 for party in state.parties]
    order = []
    while len(order) < state.offices:
        party = whose_turn(state, parties, had)
        had[party] += 1
        order.append(party)
    return order


def gain(state, order, taken, party):
    worth = state.parties[party].worth
    return sum([worth[office] for chooser, office in zip(order, taken) if chooser == party])


# Which office is taken at each turn, the first ones being taken already. Who is of the lookers looks ahead to
# the end of each choice, all others choose plainly. max gives the first of like ones, and offices come rising.
def all_taken(state, order, taken, lookers):
    if len(taken) == len(order):
        return taken
    party = order[len(taken)]
    free = [office for office in range(state.offices) if office not in taken]
    if has(lookers, party):
        ends = [all_taken(state, order, taken + [office], lookers) for office in free]
        return max(ends, key=lambda end: gain(state, order, end, party))
    worth = state.parties[party].worth
    plainly = max(free, key=lambda office: worth[office])
    return all_taken(state, order, taken + [plainly], lookers)


def holders_by_turns(state, group, lookers):
    order = turn_order(state, group)
    taken = all_taken(state, order, [], lookers)
    return [order[taken.index(office)] for office in range(state.offices)]
