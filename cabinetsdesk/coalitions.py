"""Sets that may govern, what they deal, and the calls that ask which one is left for which."""

from cabinetsdesk.answering import counted, in_five, yes_or_no
from cabinetsdesk.chains import chain
from cabinetsdesk.groups import every_group, has, wins
from cabinetsdesk.refusals import IMPOSSIBLE
from cabinetsdesk.turns import turn_order
from cabinetsdesk.votes import at_odds


def may_govern(state, group):
    return wins(state, group) and not at_odds(state, group)


def governing_groups(state):
    return [group for group in every_group(state) if may_govern(state, group)]


def deal_of(state, group):
    order = turn_order(state, group)
    return [order.count(party) for party in range(len(state.parties))]


# What each set that may govern deals, reckoned once for all that a call compares with it.
def governing_deals(state):
    deals = {}
    for group in governing_groups(state):
        deals[group] = deal_of(state, group)
    return deals


# Those who come to the new set must all gain; who stays behind in the old one is not asked.
def all_gain(group, new, old):
    return all([new[party] > old[party] for party in range(len(new)) if has(group, party)])


def left_for(deals, old):
    return [group for group in deals if all_gain(group, deals[group], old)]


def answer_deal(state, values):
    return [yes_or_no(may_govern(state, values[0]))] + in_five(deal_of(state, values[0]))


def answer_mays(state, values):
    return counted(governing_groups(state))


def answer_leave(state, values):
    return counted(left_for(governing_deals(state), deal_of(state, values[0])))


def answer_stable(state, values):
    deals = governing_deals(state)
    return counted([group for group in deals if len(left_for(deals, deals[group])) == 0])


def answer_on(state, values):
    deals = governing_deals(state)
    return counted(chain(values[0], lambda group: left_for(deals, deal_of(state, group))))


# max gives the first of like ones, and the sets come rising.
def answer_best(state, values):
    party = values[0]
    deals = governing_deals(state)
    with_it = [group for group in deals if has(group, party)]
    if len(with_it) == 0:
        return [IMPOSSIBLE]
    best = max(with_it, key=lambda group: deals[group][party])
    return [deals[best][party], best]


COALITION_CALLS = {
    "deal": answer_deal,
    "mays": answer_mays,
    "leave": answer_leave,
    "stable": answer_stable,
    "on": answer_on,
    "best": answer_best,
}


def is_coalition_call(name):
    return name in COALITION_CALLS


def answer_coalition_call(state, name, values):
    return COALITION_CALLS[name](state, values)
