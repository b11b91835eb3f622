"""All that a hall holds at one time."""

from cabinetsdesk.groups import NOBODY


class State:
    # likes and hates hold, for each party, a set of parties as a number.
    def __init__(self, rule, offices):
        self.rule = rule
        self.offices = offices
        self.parties = []
        self.likes = []
        self.hates = []
        self.cabinet = NOBODY
        self.holders = []

    def twin(self):
        other = State(self.rule, self.offices)
        other.parties = list(self.parties)
        other.likes = list(self.likes)
        other.hates = list(self.hates)
        other.cabinet = self.cabinet
        other.holders = list(self.holders)
        return other
