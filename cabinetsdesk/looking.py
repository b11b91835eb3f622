"""The calls that tell what a hall holds."""

from cabinetsdesk.answering import in_five
from cabinetsdesk.groups import NOBODY, members
from cabinetsdesk.refusals import ABSENT


def feelings(state, groups):
    return sum([len(members(state, group)) for group in groups])


# A hate is kept with both who hate each other, and is one all the same.
def stock(state):
    likes = feelings(state, state.likes)
    hates = feelings(state, state.hates) // 2
    return [len(state.parties), state.rule, state.offices, likes, hates, state.cabinet]


def answer_governs(state, values):
    if state.cabinet == NOBODY:
        return [ABSENT]
    return [state.cabinet] + in_five(state.holders)


def answer_look(state, values):
    party = state.parties[values[0]]
    return [party.seats] + list(party.wants) + list(party.cares) + in_five(list(party.worth))


LOOKING_CALLS = {
    "governs": answer_governs,
    "look": answer_look,
}


def answer_looking_call(state, name, values):
    return LOOKING_CALLS[name](state, values)
