"""The program beside a second one, written from the document's words in another way, on many lists of calls."""

import copy
import random
import unittest
from fractions import Fraction
from itertools import combinations

from tests.helper import LARGEST, ask


class Refusal(Exception):
    pass


class Model:
    """Parties are dicts, sets of parties are frozensets, likes and hates are sets of pairs."""

    def __init__(self):
        self.hall = None
        self.done = []
        self.undone = []

    def answer(self, name, *values):
        before = copy.deepcopy(self.hall)
        try:
            if name != "begin" and self.hall is None:
                raise Refusal(-61)
            found = getattr(self, "call_" + name)(*values)
        except Refusal as refusal:
            self.hall = before
            return [refusal.args[0]]
        if name in "party seats wants cares worth like hate forget form leaves resign".split():
            self.done = (self.done + [before])[-16:]
            self.undone = []
        return found

    # What the words mean.

    def need(self, good, number):
        if not good:
            raise Refusal(number)

    def party(self, i):
        self.need(i < len(self.hall["parties"]), -2)
        return self.hall["parties"][i]

    def group(self, s):
        found = frozenset(i for i in range(32) if s >> i & 1)
        self.need(found and found <= set(range(len(self.hall["parties"]))), -2)
        return found

    def seats(self, parties):
        return sum(self.hall["parties"][i]["n"] for i in parties)

    def all(self):
        return frozenset(range(len(self.hall["parties"])))

    def hating(self, i, j):
        return frozenset((i, j)) in self.hall["hates"]

    def sides(self, group):
        against = {i for i in self.all() - group if any(self.hating(i, j) for j in group)}
        liking = {i for i in self.all() - group - against if any((i, j) in self.hall["likes"] for j in group)}
        return group | liking, against, self.all() - group - liking - against

    def firm(self, group):
        if not group or any(self.hating(i, j) for i, j in combinations(group, 2)):
            return False
        favour, against, neither = map(self.seats, self.sides(group))
        half = Fraction(self.seats(self.all()), 2)
        return (favour > against, favour > half, not against > half)[self.hall["rule"]]

    def groups(self):
        everyone = sorted(self.all())
        return [frozenset(c) for size in range(1, len(everyone) + 1) for c in combinations(everyone, size)]

    def number(self, group):
        return sum(2 ** i for i in group)

    def listed(self, groups):
        return [len(groups)] + sorted(self.number(group) for group in groups)

    def firm_ones(self):
        return [group for group in self.groups() if self.firm(group)]

    def place(self, i):
        return self.hall["parties"][i]["x"]

    def winning(self, group):
        return self.seats(group) > Fraction(self.seats(self.all()), 2)

    def row(self, group):
        return all(
            i in group
            for i in self.all() for a in group for b in group
            if self.place(a) < self.place(i) < self.place(b))

    def wide(self, group):
        return max(self.place(a) - self.place(b) for a in group for b in group)

    def install(self, group):
        had = {i: 0 for i in group}
        holders = {}
        for turn in range(self.hall["m"]):
            chosen = min(group, key=lambda i: (-Fraction(self.hall["parties"][i]["n"], had[i] + 1), i))
            had[chosen] += 1
            worth = self.hall["parties"][chosen]["worth"]
            office = min((o for o in range(self.hall["m"]) if o not in holders), key=lambda o: (-worth[o], o))
            holders[office] = chosen
        self.hall["cabinet"] = group
        return [holders[office] for office in range(self.hall["m"])]

    def settled(self):
        if self.hall["cabinet"] and not self.firm(self.hall["cabinet"]):
            self.hall["cabinet"] = frozenset()
            return [1]
        return [0]

    # The calls.

    def call_begin(self, r, m):
        self.need(r in (0, 1, 2) and m in (1, 2, 3, 4, 5), -22)
        self.hall = {"rule": r, "m": m, "parties": [], "likes": set(), "hates": set(), "cabinet": frozenset()}
        self.done = []
        self.undone = []
        return [0]

    def check(self, n=1, x=0, y=0, p=1, q=1, worth=None):
        self.need(n in range(1, 201) and x in range(31) and y in range(31), -22)
        self.need(p in range(1, 6) and q in range(1, 6), -22)
        if worth is not None:
            self.need(len(worth) == self.hall["m"] and all(w in range(51) for w in worth), -22)

    def call_party(self, n, x, y, p, q, worth):
        self.check(n, x, y, p, q, worth)
        self.need(not self.hall["cabinet"], -16)
        self.need(len(self.hall["parties"]) < 5, -28)
        self.hall["parties"].append({"n": n, "x": x, "y": y, "p": p, "q": q, "worth": worth})
        return [len(self.hall["parties"]) - 1]

    def put(self, i, **new):
        party = self.party(i)
        self.check(**new)
        party.update(new)
        return self.settled()

    def call_seats(self, i, n):
        return self.put(i, n=n)

    def call_wants(self, i, x, y):
        return self.put(i, x=x, y=y)

    def call_cares(self, i, p, q):
        return self.put(i, p=p, q=q)

    def call_worth(self, i, worth):
        return self.put(i, worth=worth)

    def feel(self, i, j, kind, what):
        self.party(i)
        self.party(j)
        self.need(i != j, -22)
        self.need(what not in self.hall[kind], -17)
        self.hall[kind].add(what)
        return self.settled()

    def call_like(self, i, j):
        return self.feel(i, j, "likes", (i, j))

    def call_hate(self, i, j):
        return self.feel(i, j, "hates", frozenset((i, j)))

    def call_forget(self, i, j):
        self.party(i)
        self.party(j)
        self.need((i, j) in self.hall["likes"] or self.hating(i, j), -6)
        self.hall["likes"].discard((i, j))
        self.hall["hates"].discard(frozenset((i, j)))
        return self.settled()

    def call_form(self, s):
        group = self.group(s)
        self.need(not self.hall["cabinet"], -16)
        self.need(self.firm(group), -33)
        return [self.hall["m"]] + self.install(group)

    def call_leaves(self, i):
        self.party(i)
        self.need(i in self.hall["cabinet"], -6)
        self.hall["cabinet"] -= {i}
        if self.firm(self.hall["cabinet"]):
            return [0]
        self.hall["cabinet"] = frozenset()
        return [1]

    def call_resign(self):
        self.need(self.hall["cabinet"], -6)
        gone = self.number(self.hall["cabinet"])
        self.hall["cabinet"] = frozenset()
        return [gone]

    def call_back(self):
        self.need(self.done, -6)
        self.undone.append(self.hall)
        self.hall = self.done.pop()
        return [len(self.done)]

    def call_again(self):
        self.need(self.undone, -6)
        self.done.append(self.hall)
        self.hall = self.undone.pop()
        return [len(self.undone)]

    def call_vote(self, s):
        return [self.seats(side) for side in self.sides(self.group(s))]

    def call_stands(self, s):
        return [int(self.firm(self.group(s)))]

    def call_standing(self):
        return self.listed(self.firm_ones())

    def call_tight(self):
        return self.listed([g for g in self.firm_ones() if all(not self.firm(g - {i}) for i in g)])

    def call_fewest(self):
        self.need(self.firm_ones(), -33)
        return list(min((len(g), self.number(g)) for g in self.firm_ones()))

    def call_smallest(self):
        self.need(self.firm_ones(), -33)
        return list(min((self.seats(g), self.number(g)) for g in self.firm_ones()))

    def call_part(self, i):
        self.party(i)
        return [len([g for g in self.firm_ones() if i in g]), len(self.firm_ones())]

    def call_middle(self):
        half = Fraction(self.seats(self.all()), 2)
        found = [
            i for i in sorted(self.all())
            if self.seats(j for j in self.all() if self.place(j) < self.place(i)) <= half
            and self.seats(j for j in self.all() if self.place(j) > self.place(i)) <= half]
        return [len(found)] + found

    def call_joined(self, s):
        group = self.group(s)
        return [int(self.row(group)), self.wide(group), self.seats(group)]

    def call_neighbours(self):
        return self.listed([
            g for g in self.groups()
            if self.winning(g) and self.row(g)
            and all(not self.winning(g - {i}) or not self.row(g - {i}) for i in g)])

    def call_narrowest(self):
        self.need(self.all(), -33)
        width, seats, number = min((self.wide(g), self.seats(g), self.number(g)) for g in self.groups() if self.winning(g))
        return [width, number, seats]


QUESTIONS = "standing tight fewest smallest middle neighbours narrowest".split()


class Caller:
    """Calls that mostly make sense, at times at or beyond an edge."""

    def __init__(self, seed):
        self.chance = random.Random(seed)
        self.offices = self.chance.randint(1, 5)
        self.scale = self.chance.choice((2, 5, 200))
        self.width = self.chance.choice((2, 6, 30))

    def number(self, low, high):
        if self.chance.random() < 0.01:
            return self.chance.choice((0, high + 1, LARGEST))
        return self.chance.randint(low, high)

    def worth(self):
        length = self.number(self.offices, self.offices)
        return [self.number(0, self.chance.choice((2, 50))) for _ in range(min(length, 20))]

    def party(self):
        return self.number(0, 4) if self.chance.random() < 0.2 else self.number(0, 2)

    def group(self):
        return self.number(1, 31) if self.chance.random() < 0.3 else self.number(1, 7)

    def new_party(self):
        return ("party", self.number(1, self.scale), self.number(0, self.width), self.number(0, 30),
                self.number(1, 5), self.number(1, 5), self.worth())

    def call(self):
        kind = self.chance.choices(
            "party seats wants cares worth feeling form leaves resign history group part question begin".split(),
            (4, 8, 4, 1, 2, 16, 8, 5, 3, 8, 10, 3, 14, 0.3))[0]
        if kind == "party":
            return self.new_party()
        if kind == "seats":
            return ("seats", self.party(), self.number(1, self.scale))
        if kind == "wants":
            return ("wants", self.party(), self.number(0, self.width), self.number(0, 30))
        if kind == "cares":
            return ("cares", self.party(), self.number(1, 5), self.number(1, 5))
        if kind == "worth":
            return ("worth", self.party(), self.worth())
        if kind == "feeling":
            return (self.chance.choice(("like", "like", "hate", "forget", "forget")), self.party(), self.party())
        if kind == "form":
            return ("form", self.group())
        if kind in ("leaves", "part"):
            return (kind, self.party())
        if kind == "resign":
            return ("resign",)
        if kind == "history":
            return (self.chance.choice(("back", "again")),)
        if kind == "group":
            return (self.chance.choice(("vote", "stands", "joined")), self.group())
        if kind == "question":
            return (self.chance.choice(QUESTIONS),)
        self.offices = self.chance.randint(1, 5)
        return ("begin", self.number(0, 2), self.number(self.offices, self.offices))

    def calls(self):
        first = [("begin", self.chance.randint(0, 2), self.offices)]
        first += [self.new_party() for _ in range(self.chance.choice((0, 1, 2, 3, 4, 4, 5, 5)))]
        return first + [self.call() for _ in range(80)]


class BesideTheModel(unittest.TestCase):
    def test_same_answers(self):
        for seed in range(400):
            calls = Caller(seed).calls()
            found = ask(*calls)
            model = Model()
            for at, call in enumerate(calls):
                expected = model.answer(*call)
                if found[at] != expected:
                    self.fail(f"seed {seed}, call {at}, {call}: {found[at]}, expected {expected}")
