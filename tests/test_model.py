"""The program beside a second one, written from the document's words in another way, on many lists of calls."""

import copy
import random
import unittest
from fractions import Fraction
from itertools import combinations, permutations, product

from tests.helper import LARGEST, ask


class Refusal(Exception):
    pass


class Model:
    """Parties are dicts, sets of parties are frozensets, likes and hates are sets of pairs."""

    def __init__(self):
        self.hall = None
        self.done = []
        self.undone = []

    def answer(self, name, *values):
        before = copy.deepcopy(self.hall)
        try:
            if name != "begin" and self.hall is None:
                raise Refusal(-61)
            found = getattr(self, "call_" + name)(*values)
        except Refusal as refusal:
            self.hall = before
            return [refusal.args[0]]
        if name in "party seats wants cares worth like hate forget form leaves resign".split():
            self.done = (self.done + [before])[-16:]
            self.undone = []
        return found

    # What the words mean.

    def need(self, good, number):
        if not good:
            raise Refusal(number)

    def party(self, i):
        self.need(i < len(self.hall["parties"]), -2)
        return self.hall["parties"][i]

    def group(self, s):
        found = frozenset(i for i in range(32) if s >> i & 1)
        self.need(found and found <= set(range(len(self.hall["parties"]))), -2)
        return found

    def seats(self, parties):
        return sum(self.hall["parties"][i]["n"] for i in parties)

    def all(self):
        return frozenset(range(len(self.hall["parties"])))

    def hating(self, i, j):
        return frozenset((i, j)) in self.hall["hates"]

    def sides(self, group):
        against = {i for i in self.all() - group if any(self.hating(i, j) for j in group)}
        liking = {i for i in self.all() - group - against if any((i, j) in self.hall["likes"] for j in group)}
        return group | liking, against, self.all() - group - liking - against

    def firm(self, group):
        if not group or any(self.hating(i, j) for i, j in combinations(group, 2)):
            return False
        favour, against, neither = map(self.seats, self.sides(group))
        half = Fraction(self.seats(self.all()), 2)
        return (favour > against, favour > half, not against > half)[self.hall["rule"]]

    def groups(self):
        everyone = sorted(self.all())
        return [frozenset(c) for size in range(1, len(everyone) + 1) for c in combinations(everyone, size)]

    def number(self, group):
        return sum(2 ** i for i in group)

    def listed(self, groups):
        return [len(groups)] + sorted(self.number(group) for group in groups)

    def firm_ones(self):
        return [group for group in self.groups() if self.firm(group)]

    def place(self, i):
        return self.hall["parties"][i]["x"]

    def winning(self, group):
        return self.seats(group) > Fraction(self.seats(self.all()), 2)

    def row(self, group):
        return all(
            i in group
            for i in self.all() for a in group for b in group
            if self.place(a) < self.place(i) < self.place(b))

    def wide(self, group):
        return max(self.place(a) - self.place(b) for a in group for b in group)

    def turns(self, group):
        had = {i: 0 for i in group}
        order = []
        for turn in range(self.hall["m"]):
            order.append(min(group, key=lambda i: (-Fraction(self.hall["parties"][i]["n"], had[i] + 1), i)))
            had[order[-1]] += 1
        return order

    def worth(self, i, o):
        return self.hall["parties"][i]["worth"][o]

    def plainly(self, i, gone):
        return min((o for o in range(self.hall["m"]) if o not in gone), key=lambda o: (-self.worth(i, o), o))

    def plain(self, group):
        taken = []
        for i in self.turns(group):
            taken.append(self.plainly(i, taken))
        return taken

    def total(self, i, order, taken):
        return sum(self.worth(i, o) for j, o in zip(order, taken) if i == j)

    def ahead(self, group):
        """Of all that could be, from the last turn to the first, what nobody would choose is struck out."""
        order = self.turns(group)
        left = list(permutations(range(self.hall["m"])))
        for turn in reversed(range(self.hall["m"])):
            best = {}
            for taken in sorted(left):
                kept = best.setdefault(taken[:turn], taken)
                if self.total(order[turn], order, taken) > self.total(order[turn], order, kept):
                    best[taken[:turn]] = taken
            left = list(best.values())
        return list(left[0])

    def taken(self, group, k):
        self.need(k in (0, 1), -22)
        return self.ahead(group) if k else self.plain(group)

    def install(self, group):
        order = self.turns(group)
        holders = dict(zip(self.plain(group), order))
        self.hall["cabinet"] = group
        self.hall["holders"] = [holders[office] for office in range(self.hall["m"])]
        return self.hall["holders"]

    def far(self, i, sharing):
        me, first, second = (self.hall["parties"][j] for j in (i, *sharing))
        return me["p"] * abs(first["x"] - me["x"]) + me["q"] * abs(second["y"] - me["y"])

    def lovers(self, one, other):
        return {i for i in self.all() if self.far(i, one) < self.far(i, other)}

    def beating(self, one, other):
        return self.winning(self.lovers(one, other))

    def unseating(self, one, other):
        return self.beating(one, other) and set(one) <= self.lovers(one, other)

    def sharings(self):
        return sorted(product(self.all(), repeat=2))

    def paired(self, pairs):
        return [len(pairs)] + [number for pair in pairs for number in pair]

    def walk(self, now, after):
        seen = set()
        come = []
        while now not in seen and after(now):
            seen.add(now)
            now = after(now)[0]
            come.append(now)
        return come

    def may(self, group):
        return self.winning(group) and not any(self.hating(i, j) for i, j in combinations(group, 2))

    def mays(self):
        return sorted(filter(self.may, self.groups()), key=self.number)

    def dealt(self, group):
        return [self.turns(group).count(i) for i in range(5)]

    def left(self, group):
        had = self.dealt(group)
        return [other for other in self.mays() if all(self.dealt(other)[i] > had[i] for i in other)]

    def middling(self, i, question):
        half = Fraction(self.seats(self.all()), 2)
        me = self.hall["parties"][i][question]
        less = [j for j in self.all() if self.hall["parties"][j][question] < me]
        more = [j for j in self.all() if self.hall["parties"][j][question] > me]
        return self.seats(less) <= half and self.seats(more) <= half

    def settled(self):
        if self.hall["cabinet"] and not self.firm(self.hall["cabinet"]):
            self.hall["cabinet"] = frozenset()
            return [1]
        return [0]

    # The calls.

    def call_begin(self, r, m):
        self.need(r in (0, 1, 2) and m in (1, 2, 3, 4, 5), -22)
        self.hall = {"rule": r, "m": m, "parties": [], "likes": set(), "hates": set(), "cabinet": frozenset()}
        self.done = []
        self.undone = []
        return [0]

    def check(self, n=1, x=0, y=0, p=1, q=1, worth=None):
        self.need(n in range(1, 201) and x in range(31) and y in range(31), -22)
        self.need(p in range(1, 6) and q in range(1, 6), -22)
        if worth is not None:
            self.need(len(worth) == self.hall["m"] and all(w in range(51) for w in worth), -22)

    def call_party(self, n, x, y, p, q, worth):
        self.check(n, x, y, p, q, worth)
        self.need(not self.hall["cabinet"], -16)
        self.need(len(self.hall["parties"]) < 5, -28)
        self.hall["parties"].append({"n": n, "x": x, "y": y, "p": p, "q": q, "worth": worth})
        return [len(self.hall["parties"]) - 1]

    def put(self, i, **new):
        party = self.party(i)
        self.check(**new)
        party.update(new)
        return self.settled()

    def call_seats(self, i, n):
        return self.put(i, n=n)

    def call_wants(self, i, x, y):
        return self.put(i, x=x, y=y)

    def call_cares(self, i, p, q):
        return self.put(i, p=p, q=q)

    def call_worth(self, i, worth):
        return self.put(i, worth=worth)

    def feel(self, i, j, kind, what):
        self.party(i)
        self.party(j)
        self.need(i != j, -22)
        self.need(what not in self.hall[kind], -17)
        self.hall[kind].add(what)
        return self.settled()

    def call_like(self, i, j):
        return self.feel(i, j, "likes", (i, j))

    def call_hate(self, i, j):
        return self.feel(i, j, "hates", frozenset((i, j)))

    def call_forget(self, i, j):
        self.party(i)
        self.party(j)
        self.need((i, j) in self.hall["likes"] or self.hating(i, j), -6)
        self.hall["likes"].discard((i, j))
        self.hall["hates"].discard(frozenset((i, j)))
        return self.settled()

    def call_form(self, s):
        group = self.group(s)
        self.need(not self.hall["cabinet"], -16)
        self.need(self.firm(group), -33)
        return [self.hall["m"]] + self.install(group)

    def call_leaves(self, i):
        self.party(i)
        self.need(i in self.hall["cabinet"], -6)
        self.hall["cabinet"] -= {i}
        if self.firm(self.hall["cabinet"]):
            self.install(self.hall["cabinet"])
            return [0]
        self.hall["cabinet"] = frozenset()
        return [1]

    def call_resign(self):
        self.need(self.hall["cabinet"], -6)
        gone = self.number(self.hall["cabinet"])
        self.hall["cabinet"] = frozenset()
        return [gone]

    def call_back(self):
        self.need(self.done, -6)
        self.undone.append(self.hall)
        self.hall = self.done.pop()
        return [len(self.done)]

    def call_again(self):
        self.need(self.undone, -6)
        self.done.append(self.hall)
        self.hall = self.undone.pop()
        return [len(self.undone)]

    def call_vote(self, s):
        return [self.seats(side) for side in self.sides(self.group(s))]

    def call_stands(self, s):
        return [int(self.firm(self.group(s)))]

    def call_standing(self):
        return self.listed(self.firm_ones())

    def call_tight(self):
        return self.listed([g for g in self.firm_ones() if all(not self.firm(g - {i}) for i in g)])

    def call_fewest(self):
        self.need(self.firm_ones(), -33)
        return list(min((len(g), self.number(g)) for g in self.firm_ones()))

    def call_smallest(self):
        self.need(self.firm_ones(), -33)
        return list(min((self.seats(g), self.number(g)) for g in self.firm_ones()))

    def call_part(self, i):
        self.party(i)
        return [len([g for g in self.firm_ones() if i in g]), len(self.firm_ones())]

    def call_middle(self):
        found = [i for i in sorted(self.all()) if self.middling(i, "x")]
        return [len(found)] + found

    def call_joined(self, s):
        group = self.group(s)
        return [int(self.row(group)), self.wide(group), self.seats(group)]

    def call_neighbours(self):
        return self.listed([
            g for g in self.groups()
            if self.winning(g) and self.row(g)
            and all(not self.winning(g - {i}) or not self.row(g - {i}) for i in g)])

    def call_narrowest(self):
        self.need(self.all(), -33)
        width, seats, number = min((self.wide(g), self.seats(g), self.number(g)) for g in self.groups() if self.winning(g))
        return [width, number, seats]

    def call_centre(self):
        away = [
            (sum(abs(place - party["x"]) for party in self.hall["parties"] for _ in range(party["n"])), place)
            for place in range(101)]
        return [min(away)[1], min(away)[0]]

    def call_motion(self, x, y):
        self.need(x <= 30 and y <= 30, -22)
        ways = [(abs(self.place(i) - x), abs(self.place(i) - y), i) for i in self.all()]
        return [self.seats(i for to_x, to_y, i in ways if to_x < to_y), self.seats(i for to_x, to_y, i in ways if to_y < to_x)]

    def call_order(self, s):
        return [self.hall["m"]] + self.turns(self.group(s))

    def call_plain(self, s):
        return [self.hall["m"]] + self.plain(self.group(s))

    def call_ahead(self, s):
        return [self.hall["m"]] + self.ahead(self.group(s))

    def call_alone(self, s, i):
        group = self.group(s)
        self.party(i)
        self.need(i in group, -6)
        order = self.turns(group)
        could = [
            taken for taken in permutations(range(self.hall["m"]))
            if all(j == i or taken[turn] == self.plainly(j, taken[:turn]) for turn, j in enumerate(order))]
        return [max(self.total(i, order, taken) for taken in could), self.total(i, order, self.plain(group))]

    def call_gains(self, s, k):
        group = self.group(s)
        taken = self.taken(group, k)
        return [len(group)] + [self.total(i, self.turns(group), taken) for i in sorted(group)]

    def call_swaps(self, s, k):
        group = self.group(s)
        holds = dict(zip(self.taken(group, k), self.turns(group)))
        return self.paired([
            (a, b) for a, b in combinations(range(self.hall["m"]), 2)
            if self.worth(holds[a], b) > self.worth(holds[a], a) and self.worth(holds[b], a) > self.worth(holds[b], b)])

    def call_beats(self, a, b, c, d):
        for i in (a, b, c, d):
            self.party(i)
        one, other = (a, b), (c, d)
        return [int(self.beating(one, other)), self.seats(self.lovers(one, other)), self.seats(self.lovers(other, one))]

    def sharing(self, a, b):
        self.party(a)
        self.party(b)
        return a, b

    def call_beaters(self, a, b):
        sharing = self.sharing(a, b)
        return self.paired([other for other in self.sharings() if self.beating(other, sharing)])

    def call_unseaters(self, a, b):
        sharing = self.sharing(a, b)
        return self.paired([other for other in self.sharings() if self.unseating(other, sharing)])

    def call_calm(self):
        return self.paired([
            one for one in self.sharings() if not any(self.beating(other, one) for other in self.sharings())])

    def call_holding(self):
        return self.paired([
            one for one in self.sharings() if not any(self.unseating(other, one) for other in self.sharings())])

    def call_middles(self):
        return self.paired([(a, b) for a, b in self.sharings() if self.middling(a, "x") and self.middling(b, "y")])

    def call_strong(self):
        found = [
            i for i in sorted(self.all())
            if not any(self.beating((a, b), (i, i)) for a, b in self.sharings() if a != i and b != i)]
        return [len(found)] + found

    def call_fall(self, a, b):
        after = lambda one: [other for other in self.sharings() if self.unseating(other, one)]
        return self.paired(self.walk(self.sharing(a, b), after))

    def call_deal(self, s):
        group = self.group(s)
        return [int(self.may(group))] + self.dealt(group)

    def call_mays(self):
        return self.listed(self.mays())

    def call_leave(self, s):
        return self.listed(self.left(self.group(s)))

    def call_stable(self):
        return self.listed([group for group in self.mays() if not self.left(group)])

    def call_on(self, s):
        come = self.walk(self.group(s), self.left)
        return [len(come)] + [self.number(group) for group in come]

    def call_best(self, i):
        self.party(i)
        own = [group for group in self.mays() if i in group]
        self.need(own, -33)
        offices, number = min((-self.dealt(group)[i], self.number(group)) for group in own)
        return [-offices, number]

    def call_governs(self):
        self.need(self.hall["cabinet"], -6)
        return [self.number(self.hall["cabinet"])] + (self.hall["holders"] + [0] * 5)[:5]

    def call_look(self, i):
        party = self.party(i)
        return [party[name] for name in "nxypq"] + (party["worth"] + [0] * 5)[:5]

    def call_state(self):
        hall = self.hall
        return [len(hall["parties"]), hall["rule"], hall["m"], len(hall["likes"]), len(hall["hates"]),
                self.number(hall["cabinet"]), len(self.done), len(self.undone)]


QUESTIONS = (
    "standing tight fewest smallest middle neighbours narrowest centre calm holding middles strong mays stable"
    " governs state"
).split()
OF_A_PARTY = "part best look".split()
OF_A_SET = "vote stands joined order plain ahead deal leave on".split()
OF_A_SHARING = "beaters unseaters fall".split()


class Caller:
    """Calls that mostly make sense, at times at or beyond an edge."""

    def __init__(self, seed):
        self.chance = random.Random(seed)
        self.offices = self.chance.randint(1, 5)
        self.scale = self.chance.choice((2, 5, 200))
        self.width = self.chance.choice((2, 6, 30))

    def number(self, low, high):
        if self.chance.random() < 0.01:
            return self.chance.choice((0, high + 1, LARGEST))
        return self.chance.randint(low, high)

    def worth(self):
        length = self.number(self.offices, self.offices)
        return [self.number(0, self.chance.choice((2, 50))) for _ in range(min(length, 20))]

    def party(self):
        return self.number(0, 4) if self.chance.random() < 0.2 else self.number(0, 2)

    def group(self):
        return self.number(1, 31) if self.chance.random() < 0.3 else self.number(1, 7)

    def new_party(self):
        return ("party", self.number(1, self.scale), self.number(0, self.width), self.number(0, self.width),
                self.number(1, 5), self.number(1, 5), self.worth())

    def call(self):
        kind = self.chance.choices(
            "party seats wants cares worth feeling form leaves resign history group one question begin"
            " motion alone ways beats sharing".split(),
            (4, 8, 4, 3, 4, 16, 8, 5, 3, 8, 14, 5, 24, 0.3, 2, 4, 6, 4, 5))[0]
        if kind == "party":
            return self.new_party()
        if kind == "seats":
            return ("seats", self.party(), self.number(1, self.scale))
        if kind == "wants":
            return ("wants", self.party(), self.number(0, self.width), self.number(0, self.width))
        if kind == "cares":
            return ("cares", self.party(), self.number(1, 5), self.number(1, 5))
        if kind == "worth":
            return ("worth", self.party(), self.worth())
        if kind == "feeling":
            return (self.chance.choice(("like", "like", "hate", "forget", "forget")), self.party(), self.party())
        if kind == "form":
            return ("form", self.group())
        if kind == "leaves":
            return ("leaves", self.party())
        if kind == "one":
            return (self.chance.choice(OF_A_PARTY), self.party())
        if kind == "resign":
            return ("resign",)
        if kind == "history":
            return (self.chance.choice(("back", "again")),)
        if kind == "group":
            return (self.chance.choice(OF_A_SET), self.group())
        if kind == "motion":
            return ("motion", self.number(0, 30), self.number(0, 30))
        if kind == "alone":
            return ("alone", self.group(), self.party())
        if kind == "ways":
            return (self.chance.choice(("gains", "swaps")), self.group(), self.number(0, 1))
        if kind == "beats":
            return ("beats", self.party(), self.party(), self.party(), self.party())
        if kind == "sharing":
            return (self.chance.choice(OF_A_SHARING), self.party(), self.party())
        if kind == "question":
            return (self.chance.choice(QUESTIONS),)
        self.offices = self.chance.randint(1, 5)
        return ("begin", self.number(0, 2), self.number(self.offices, self.offices))

    def calls(self):
        first = [("begin", self.chance.randint(0, 2), self.offices)]
        first += [self.new_party() for _ in range(self.chance.choice((0, 1, 2, 3, 4, 4, 5, 5)))]
        return first + [self.call() for _ in range(80)]


class BesideTheModel(unittest.TestCase):
    def check(self, seed, calls):
        found = ask(*calls)
        model = Model()
        for at, call in enumerate(calls):
            expected = model.answer(*call)
            if found[at] != expected:
                self.fail(f"seed {seed}, call {at}, {call}: {found[at]}, expected {expected}")

    def test_calls_of_all_kinds(self):
        for seed in range(300):
            self.check(seed, Caller(seed).calls())

    def test_all_questions_in_large_halls(self):
        for seed in range(1000, 1040):
            chance = random.Random(seed)
            parties = chance.choice((4, 5, 5))
            before = large_hall(chance, parties, 5)
            self.check(seed, before + chance.sample(all_questions(parties), 250))


def large_hall(chance, parties, offices):
    calls = [("begin", chance.randint(0, 2), offices)]
    width = chance.choice((3, 8, 30))
    low, high = chance.choice(((1, 5), (1, 200), (20, 40), (30, 40)))
    for i in range(parties):
        worth = [chance.randint(0, chance.choice((5, 50))) for _ in range(offices)]
        if chance.random() < 0.7:
            worth = chance.sample(range(1, offices + 1), offices)
        calls.append(("party", chance.randint(low, high), chance.randint(0, width), chance.randint(0, width),
                      chance.randint(1, 5), chance.randint(1, 5), worth))
    for i, j in product(range(parties), repeat=2):
        if i != j and chance.random() < 0.2:
            calls.append(("like", i, j))
        if i < j and chance.random() < 0.1:
            calls.append(("hate", i, j))
    return calls + [("form", 1 + chance.randrange(2 ** parties - 1)) for _ in range(3)]


def all_questions(parties):
    groups = range(1, 2 ** parties)
    pairs = list(product(range(parties), repeat=2))
    calls = [(name,) for name in QUESTIONS]
    calls += [(name, i) for name in OF_A_PARTY for i in range(parties)]
    calls += [(name, s) for name in OF_A_SET for s in groups]
    calls += [(name, *pair) for name in OF_A_SHARING for pair in pairs]
    calls += [(name, s, k) for name in ("gains", "swaps") for s in groups for k in (0, 1)]
    calls += [("alone", s, i) for s in groups for i in range(parties)]
    calls += [("beats", *one, *other) for one in pairs[::3] for other in pairs[::4]]
    return calls + [("motion", x, y) for x in range(0, 31, 3) for y in range(0, 31, 4)]
