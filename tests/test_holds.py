"""What holds, a to f, each over many halls."""

import random
import unittest

from tests.helper import ask, last

HALLS = 150


def some_hall(chance, rule=None, fewest=0):
    parties = chance.randint(fewest, 5)
    offices = chance.randint(1, 5)
    scale = chance.choice((3, 12, 200))
    width = chance.choice((2, 6, 30))
    calls = [("begin", chance.randint(0, 2) if rule is None else rule, offices)]
    for _ in range(parties):
        calls.append(("party", chance.randint(1, scale), chance.randint(0, width), chance.randint(0, width),
                      chance.randint(1, 5), chance.randint(1, 5), some_worth(chance, offices)))
    return parties, offices, calls


def some_worth(chance, offices):
    return [chance.randint(0, chance.choice((3, 50))) for _ in range(offices)]


def some_change(chance, parties, offices):
    """A change, at times one that is refused."""
    i, j = chance.randint(0, parties), chance.randint(0, max(parties - 1, 0))
    return chance.choice((
        ("party", chance.randint(0, 9), chance.randint(0, 31), 1, 1, 1, some_worth(chance, offices)),
        ("seats", j, chance.randint(0, 20)), ("wants", j, chance.randint(0, 31), chance.randint(0, 30)),
        ("cares", j, chance.randint(0, 5), chance.randint(1, 5)), ("worth", j, some_worth(chance, offices)),
        ("like", i, j), ("like", j, i), ("hate", i, j), ("forget", i, j), ("forget", j, i),
        ("form", chance.randint(0, 2 ** parties)), ("form", chance.randint(1, 2 ** max(parties, 1) - 1)),
        ("form", chance.randint(1, 2 ** max(parties, 1) - 1)), ("leaves", j), ("leaves", j), ("resign",),
    ))


class WhoGovernsStands(unittest.TestCase):
    def test_a(self):
        governed = 0
        for seed in range(HALLS):
            chance = random.Random(seed)
            parties, offices, calls = some_hall(chance, fewest=1)
            for _ in range(40):
                calls += [some_change(chance, parties, offices), ("governs",)]
                if chance.random() < 0.2:
                    calls += [(chance.choice(("back", "again")),), ("governs",)]
            found = ask(*calls)
            for at, call in enumerate(calls):
                if call == ("governs",) and found[at] != [-6]:
                    governed += 1
                    group, holders = found[at][0], found[at][1:]
                    with self.subTest(seed=seed, at=at):
                        self.assertEqual(last(*calls[:at], ("stands", group)), [1])
                        self.assertTrue(all(group >> holder & 1 for holder in holders[:offices]))
                        self.assertEqual(holders[offices:], [0] * (5 - offices))
        self.assertGreater(governed, 500)


class NoTwoHoldersWouldSwap(unittest.TestCase):
    def test_b(self):
        for seed in range(HALLS):
            chance = random.Random(seed)
            parties, offices, calls = some_hall(chance, rule=0, fewest=1)
            worth = [call[-1] for call in calls[1:]]
            for s in range(1, 2 ** parties):
                holders = last(*calls, ("form", s), ("governs",))[1:]
                for a in range(offices):
                    for b in range(a):
                        one, other = worth[holders[a]], worth[holders[b]]
                        with self.subTest(seed=seed, s=s, a=a, b=b):
                            self.assertFalse(one[b] > one[a] and other[a] > other[b])


class TheOneInTheMiddle(unittest.TestCase):
    def test_c(self):
        seen = 0
        for seed in range(HALLS):
            chance = random.Random(seed)
            parties, offices, calls = some_hall(chance, fewest=1)
            total = sum(call[1] for call in calls[1:])
            middle = last(*calls, ("middle",))
            if middle[0] == 1:
                groups = range(1, 2 ** parties)
                for s, row in zip(groups, ask(*calls, *[("joined", s) for s in groups])[len(calls):]):
                    if row[0] == 1 and 2 * row[2] > total:
                        seen += 1
                        with self.subTest(seed=seed, s=s):
                            self.assertTrue(s >> middle[1] & 1)
        self.assertGreater(seen, 300)


class WhatNoneBeats(unittest.TestCase):
    def test_d(self):
        seen = 0
        for seed in range(HALLS):
            parties, offices, calls = some_hall(random.Random(seed))
            calm, middles, holding = ask(*calls, ("calm",), ("middles",), ("holding",))[-3:]
            seen += calm[0]
            for at in range(calm[0]):
                with self.subTest(seed=seed, at=at):
                    self.assertIn(calm[1 + 2 * at:3 + 2 * at], pairs(middles))
                    self.assertIn(calm[1 + 2 * at:3 + 2 * at], pairs(holding))
        self.assertGreater(seen, 200)


def pairs(answer):
    return [answer[1 + 2 * at:3 + 2 * at] for at in range(answer[0])]


class FewerPartners(unittest.TestCase):
    def test_e(self):
        for seed in range(HALLS):
            parties, offices, calls = some_hall(random.Random(seed), fewest=2)
            groups = range(1, 2 ** parties)
            deals = dict(zip(groups, ask(*calls, *[("deal", s) for s in groups])[len(calls):]))
            for s in groups:
                for fewer in [fewer for fewer in groups if fewer & s == fewer]:
                    for i in [i for i in range(parties) if fewer >> i & 1]:
                        with self.subTest(seed=seed, s=s, fewer=fewer, i=i):
                            self.assertGreaterEqual(deals[fewer][1 + i], deals[s][1 + i])
                self.assertEqual(sum(deals[s][1:]), offices)
                self.assertEqual([i for i in range(5) if deals[s][1 + i] and not s >> i & 1], [])


# What can be seen of a hall; last of all what can be taken back and done again.
def glances(parties):
    calls = [("governs",), ("standing",), ("tight",), ("neighbours",), ("calm",), ("fall", 0, 0), ("mays",), ("ahead", 1)]
    calls += [("look", i) for i in range(parties)]
    return calls + [("vote", 1 << i) for i in range(parties)] + [("state",)]


def picture(calls):
    return ask(*calls, *glances(5))[len(calls):]


def without_history(found):
    return found[:-1] + [found[-1][:6]]


class TakenBackAndRefused(unittest.TestCase):
    def test_f(self):
        changed = refused = 0
        for seed in range(60):
            chance = random.Random(seed)
            parties, offices, calls = some_hall(chance, fewest=1)
            for _ in range(20):
                call = some_change(chance, parties, offices)
                with self.subTest(seed=seed, calls=calls[1 + parties:], call=call):
                    before = picture(calls)
                    if last(*calls, call)[0] < 0:
                        refused += 1
                        self.assertEqual(picture(calls + [call]), before)
                    else:
                        changed += 1
                        after = picture(calls + [call])
                        self.assertEqual(without_history(picture(calls + [call, ("back",)])), without_history(before))
                        self.assertEqual(picture(calls + [call, ("back",), ("again",)]), after)
                        self.assertEqual(after[-1][7], 0)
                calls.append(call)
        self.assertGreater(changed, 300)
        self.assertGreater(refused, 300)

    def test_all_the_way_back_and_again(self):
        for seed in range(60):
            chance = random.Random(seed)
            parties, offices, calls = some_hall(chance, fewest=1)
            pictures = [without_history(picture(calls))]
            for _ in range(16):
                call = some_change(chance, parties, offices)
                if last(*calls, call)[0] >= 0:
                    calls.append(call)
                    pictures.append(without_history(picture(calls)))
            steps = len(pictures) - 1
            for n in range(1, steps + 1):
                with self.subTest(seed=seed, n=n):
                    back = calls + [("back",)] * n
                    self.assertEqual(without_history(picture(back)), pictures[steps - n])
                    self.assertEqual(without_history(picture(back + [("again",)])), pictures[steps - n + 1])
