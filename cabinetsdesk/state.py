"""All that a hall holds at one time."""


class State:
    # likes and hates hold, for each party, a set of parties as a number; a cabinet of 0 is nobody.
    def __init__(self, rule, offices):
        self.rule = rule
        self.offices = offices
        self.parties = []
        self.likes = []
        self.hates = []
        self.cabinet = 0
        self.holders = []

    def twin(self):
        other = State(self.rule, self.offices)
        other.parties = list(self.parties)
        other.likes = list(self.likes)
        other.hates = list(self.hates)
        other.cabinet = self.cabinet
        other.holders = list(self.holders)
        return other
