"""Who votes for a set, which sets stand, and the calls that ask for it."""

from cabinetsdesk.answering import counted, yes_or_no
from cabinetsdesk.groups import NOBODY, every_group, has, least_groups, members, seats_in
from cabinetsdesk.refusals import IMPOSSIBLE

IN_FAVOUR = 0
AGAINST = 1
NEITHER = 2


# A hate outweighs a like: who hates one of the group is asked for that first.
def vote_of(state, party, group):
    if has(group, party):
        return IN_FAVOUR
    if state.hates[party] & group != 0:
        return AGAINST
    if state.likes[party] & group != 0:
        return IN_FAVOUR
    return NEITHER


def tally(state, group):
    seats = [0, 0, 0]
    for i, party in enumerate(state.parties):
        seats[vote_of(state, i, group)] += party.seats
    return seats


def at_odds(state, group):
    return any([state.hates[i] & group != 0 for i in members(state, group)])


def stands(state, group):
    if group == NOBODY or at_odds(state, group):
        return False
    seats = tally(state, group)
    if state.rule == 0:
        return seats[IN_FAVOUR] > seats[AGAINST]
    if state.rule == 1:
        return 2 * seats[IN_FAVOUR] > sum(seats)
    return 2 * seats[AGAINST] <= sum(seats)


def standing_groups(state):
    return [group for group in every_group(state) if stands(state, group)]


def answer_vote(state, values):
    return tally(state, values[0])


def answer_stands(state, values):
    return [yes_or_no(stands(state, values[0]))]


def answer_standing(state, values):
    return counted(standing_groups(state))


def answer_tight(state, values):
    return counted(least_groups(state, standing_groups(state)))


def answer_fewest(state, values):
    ranked = [(len(members(state, group)), group) for group in standing_groups(state)]
    return list(min(ranked, default=(IMPOSSIBLE,)))


def answer_smallest(state, values):
    ranked = [(seats_in(state, group), group) for group in standing_groups(state)]
    return list(min(ranked, default=(IMPOSSIBLE,)))


def answer_part(state, values):
    groups = standing_groups(state)
    return [len([group for group in groups if has(group, values[0])]), len(groups)]


VOTE_CALLS = {
    "vote": answer_vote,
    "stands": answer_stands,
    "standing": answer_standing,
    "tight": answer_tight,
    "fewest": answer_fewest,
    "smallest": answer_smallest,
    "part": answer_part,
}


def is_vote_call(name):
    return name in VOTE_CALLS


def answer_vote_call(state, name, values):
    return VOTE_CALLS[name](state, values)
