"""Sets of parties, told as numbers: party i counts 1 << i."""

NOBODY = 0


def bit(party):
    return 1 << party


def has(group, party):
    return group & bit(party) != 0


def members(state, group):
    return [i for i in range(len(state.parties)) if has(group, i)]


def everyone(state):
    return bit(len(state.parties)) - 1


def every_group(state):
    return list(range(1, everyone(state) + 1))


def seats_in(state, group):
    return sum([state.parties[i].seats for i in members(state, group)])


def wins(state, group):
    return 2 * seats_in(state, group) > seats_in(state, everyone(state))


def lessened(state, group):
    return [group - bit(i) for i in members(state, group)]


# Those of the groups that are in them no more, whichever one of their parties is taken away.
def least_groups(state, groups):
    least = []
    for group in groups:
        if not any([rest in groups for rest in lessened(state, group)]):
            least.append(group)
    return least
