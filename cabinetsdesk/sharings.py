"""Sharings of the two questions, each a pair of holders, and the calls that ask which one beats which."""

from cabinetsdesk.answering import counted, counted_pairs, yes_or_no
from cabinetsdesk.chains import chain
from cabinetsdesk.line import FIRST, SECOND, in_middle


def every_sharing(state):
    parties = list(range(len(state.parties)))
    sharings = []
    for first in parties:
        sharings.extend([(first, second) for second in parties])
    return sharings


def how_far(state, sharing, party):
    far = 0
    for question in (FIRST, SECOND):
        done = state.parties[sharing[question]].wants[question]
        far += party.cares[question] * abs(done - party.wants[question])
    return far


# A call compares many sharings: how far each is from each party is reckoned once for all of them.
class Views:
    def __init__(self, state):
        self.seats = [party.seats for party in state.parties]
        self.total = sum(self.seats)
        self.sharings = every_sharing(state)
        self.distances = {}
        for sharing in self.sharings:
            self.distances[sharing] = [how_far(state, sharing, party) for party in state.parties]

    def seats_for(self, one, other):
        nearer = self.distances[one]
        farther = self.distances[other]
        return sum([seats for seats, near, far in zip(self.seats, nearer, farther) if near < far])

    def beats(self, one, other):
        return 2 * self.seats_for(one, other) > self.total

    # The holders who must want it are those of the sharing that comes, not of the one that goes.
    def unseats(self, one, other):
        nearer = self.distances[one]
        farther = self.distances[other]
        return all([nearer[holder] < farther[holder] for holder in one]) and self.beats(one, other)

    def beaters(self, sharing):
        return [other for other in self.sharings if self.beats(other, sharing)]

    def unseaters(self, sharing):
        return [other for other in self.sharings if self.unseats(other, sharing)]

    def is_strong(self, party):
        return all([party in other for other in self.beaters((party, party))])


def answer_beats(state, values):
    views = Views(state)
    one = (values[0], values[1])
    other = (values[2], values[3])
    return [yes_or_no(views.beats(one, other)), views.seats_for(one, other), views.seats_for(other, one)]


def answer_beaters(state, values):
    return counted_pairs(Views(state).beaters((values[0], values[1])))


def answer_unseaters(state, values):
    return counted_pairs(Views(state).unseaters((values[0], values[1])))


def answer_calm(state, values):
    views = Views(state)
    return counted_pairs([sharing for sharing in views.sharings if len(views.beaters(sharing)) == 0])


def answer_holding(state, values):
    views = Views(state)
    return counted_pairs([sharing for sharing in views.sharings if len(views.unseaters(sharing)) == 0])


def answer_middles(state, values):
    found = []
    for sharing in every_sharing(state):
        if in_middle(state, sharing[FIRST], FIRST) and in_middle(state, sharing[SECOND], SECOND):
            found.append(sharing)
    return counted_pairs(found)


def answer_strong(state, values):
    views = Views(state)
    return counted([party for party in range(len(state.parties)) if views.is_strong(party)])


def answer_fall(state, values):
    views = Views(state)
    return counted_pairs(chain((values[0], values[1]), lambda sharing: views.unseaters(sharing)))


SHARING_CALLS = {
    "beats": answer_beats,
    "beaters": answer_beaters,
    "unseaters": answer_unseaters,
    "calm": answer_calm,
    "holding": answer_holding,
    "middles": answer_middles,
    "strong": answer_strong,
    "fall": answer_fall,
}


def is_sharing_call(name):
    return name in SHARING_CALLS


def answer_sharing_call(state, name, values):
    return SHARING_CALLS[name](state, values)
