"""Parties on the line of the first question, and the calls that ask for it."""

from cabinetsdesk.answering import counted, yes_or_no
from cabinetsdesk.groups import every_group, has, least_groups, members, seats_in, wins
from cabinetsdesk.party import right_wants
from cabinetsdesk.refusals import IMPOSSIBLE, WRONG

FIRST = 0
SECOND = 1
LAST_PLACE = 100


def in_middle(state, party, question):
    place = state.parties[party].wants[question]
    below = sum([other.seats for other in state.parties if other.wants[question] < place])
    above = sum([other.seats for other in state.parties if other.wants[question] > place])
    total = sum([other.seats for other in state.parties])
    return 2 * below <= total and 2 * above <= total


def places(state, group):
    return [state.parties[i].wants[FIRST] for i in members(state, group)]


def width(state, group):
    taken = places(state, group)
    return max(taken) - min(taken)


# Who stands at the place of the outermost may stay out; who stands further in may not.
def is_row(state, group):
    taken = places(state, group)
    least = min(taken)
    greatest = max(taken)
    for i, party in enumerate(state.parties):
        if least < party.wants[FIRST] < greatest and not has(group, i):
            return False
    return True


def winning_groups(state):
    return [group for group in every_group(state) if wins(state, group)]


# How far all seats are from a place, together.
def way_to(state, place):
    return sum([party.seats * abs(party.wants[FIRST] - place) for party in state.parties])


def seats_nearer(state, place, other):
    near = [party for party in state.parties if abs(party.wants[FIRST] - place) < abs(party.wants[FIRST] - other)]
    return sum([party.seats for party in near])


def answer_middle(state, values):
    return counted([i for i in range(len(state.parties)) if in_middle(state, i, FIRST)])


def answer_joined(state, values):
    group = values[0]
    return [yes_or_no(is_row(state, group)), width(state, group), seats_in(state, group)]


def answer_neighbours(state, values):
    rows = [group for group in winning_groups(state) if is_row(state, group)]
    return counted(least_groups(state, rows))


def answer_narrowest(state, values):
    ranked = [(width(state, group), seats_in(state, group), group) for group in winning_groups(state)]
    if len(ranked) == 0:
        return [IMPOSSIBLE]
    best = min(ranked)
    return [best[0], best[2], best[1]]


def answer_centre(state, values):
    ways = [way_to(state, place) for place in range(LAST_PLACE + 1)]
    return [ways.index(min(ways)), min(ways)]


def answer_motion(state, values):
    if not right_wants(values):
        return [WRONG]
    return [seats_nearer(state, values[0], values[1]), seats_nearer(state, values[1], values[0])]


LINE_CALLS = {
    "middle": answer_middle,
    "joined": answer_joined,
    "neighbours": answer_neighbours,
    "narrowest": answer_narrowest,
    "centre": answer_centre,
    "motion": answer_motion,
}


def is_line_call(name):
    return name in LINE_CALLS


def answer_line_call(state, name, values):
    return LINE_CALLS[name](state, values)
