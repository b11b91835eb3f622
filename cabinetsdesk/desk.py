"""The object that calls are made on: a hall as it is now, and what can be taken back or done again."""

from cabinetsdesk.changes import is_change, make_change
from cabinetsdesk.coalitions import answer_coalition_call, is_coalition_call
from cabinetsdesk.groups import everyone
from cabinetsdesk.line import answer_line_call, is_line_call
from cabinetsdesk.looking import answer_looking_call, stock
from cabinetsdesk.offices import answer_office_call, is_office_call
from cabinetsdesk.reading import GROUP, PARTY
from cabinetsdesk.refusals import ABSENT, NO_HALL, UNKNOWN, WRONG
from cabinetsdesk.sharings import answer_sharing_call, is_sharing_call
from cabinetsdesk.state import State
from cabinetsdesk.votes import answer_vote_call, is_vote_call

LAST_RULE = 2
MOST_OFFICES = 5
MOST_KEPT = 16


def names_nobody(state, call):
    for kind, value in zip(call.kinds, call.taken):
        if kind == PARTY and value >= len(state.parties):
            return True
        if kind == GROUP and not 1 <= value <= everyone(state):
            return True
    return False


def ask(state, name, values):
    if is_vote_call(name):
        return answer_vote_call(state, name, values)
    if is_line_call(name):
        return answer_line_call(state, name, values)
    if is_office_call(name):
        return answer_office_call(state, name, values)
    if is_sharing_call(name):
        return answer_sharing_call(state, name, values)
    if is_coalition_call(name):
        return answer_coalition_call(state, name, values)
    return answer_looking_call(state, name, values)


# States that were are kept whole and never changed again: taking back is putting one in its place.
class Desk:
    def __init__(self):
        self.current = None
        self.earlier = []
        self.later = []

    def begin(self, rule, offices):
        if rule > LAST_RULE or not 1 <= offices <= MOST_OFFICES:
            return [WRONG]
        self.current = State(rule, offices)
        self.earlier = []
        self.later = []
        return [0]

    def change(self, name, values):
        draft = self.current.twin()
        answer = make_change(draft, name, values)
        if answer[0] >= 0:
            self.earlier = (self.earlier + [self.current])[-MOST_KEPT:]
            self.later = []
            self.current = draft
        return answer

    def back(self):
        if len(self.earlier) == 0:
            return [ABSENT]
        self.later.append(self.current)
        self.current = self.earlier.pop()
        return [len(self.earlier)]

    def again(self):
        if len(self.later) == 0:
            return [ABSENT]
        self.earlier.append(self.current)
        self.current = self.later.pop()
        return [len(self.later)]

    def tell(self):
        return stock(self.current) + [len(self.earlier), len(self.later)]

    def answer(self, call):
        if call.name == "begin":
            return self.begin(call.taken[0], call.taken[1])
        if self.current is None:
            return [NO_HALL]
        if names_nobody(self.current, call):
            return [UNKNOWN]
        if call.name == "back":
            return self.back()
        if call.name == "again":
            return self.again()
        if call.name == "state":
            return self.tell()
        if is_change(call.name):
            return self.change(call.name, call.taken)
        return ask(self.current, call.name, call.taken)
