"""Each call where there is nobody, where there is one party, and where there are five with five offices."""

import unittest

from tests.helper import NAMES, ask, hall, last

NOBODY = [("begin", 2, 3)]
ONE = [("begin", 1, 2), ("party", 7, 4, 9, 2, 3, [5, 6])]
# In the middle of both questions is party 2; each has one turn where all are together, and all want alike.
FIVE = [("begin", 1, 5)] + [
    ("party", 9 - i, 5 * i, 5 * i, 1, 1, [50, 40, 30, 20, 10]) for i in range(5)]
EVERY_SHARING = [number for a in range(5) for b in range(5) for number in (a, b)]


class Nobody(unittest.TestCase):
    ANSWERS = {
        "resign": [-6], "back": [-6], "again": [-6], "standing": [0], "tight": [0], "fewest": [-33], "smallest": [-33],
        "middle": [0], "neighbours": [0], "narrowest": [-33], "centre": [0, 0], "calm": [0], "holding": [0],
        "middles": [0], "strong": [0], "mays": [0], "stable": [0], "governs": [-6], "state": [0, 2, 3, 0, 0, 0, 0, 0],
    }

    def test_each_call_that_takes_no_number(self):
        for name, expected in self.ANSWERS.items():
            with self.subTest(name=name):
                self.assertEqual(last(*NOBODY, (name,)), expected)

    def test_after_the_only_party_was_taken_back(self):
        before = NOBODY + [("party", 7, 4, 9, 2, 3, [5, 6, 7]), ("back",)]
        for name, expected in self.ANSWERS.items():
            if name not in ("again", "state"):
                with self.subTest(name=name):
                    self.assertEqual(last(*before, (name,)), expected)
        self.assertEqual(last(*before, ("state",)), [0, 2, 3, 0, 0, 0, 0, 1])


class OneParty(unittest.TestCase):
    def test_each_question(self):
        for call, expected in (
            (("vote", 1), [7, 0, 0]), (("stands", 1), [1]), (("standing",), [1, 1]), (("tight",), [1, 1]),
            (("fewest",), [1, 1]), (("smallest",), [7, 1]), (("part", 0), [1, 1]), (("middle",), [1, 0]),
            (("joined", 1), [1, 0, 7]), (("neighbours",), [1, 1]), (("narrowest",), [0, 1, 7]), (("centre",), [4, 0]),
            (("motion", 0, 9), [7, 0]), (("order", 1), [2, 0, 0]), (("plain", 1), [2, 1, 0]), (("ahead", 1), [2, 0, 1]),
            (("alone", 1, 0), [11, 11]), (("gains", 1, 0), [1, 11]), (("gains", 1, 1), [1, 11]),
            (("swaps", 1, 0), [0]), (("swaps", 1, 1), [0]), (("beats", 0, 0, 0, 0), [0, 0, 0]),
            (("beaters", 0, 0), [0]), (("unseaters", 0, 0), [0]), (("calm",), [1, 0, 0]), (("holding",), [1, 0, 0]),
            (("middles",), [1, 0, 0]), (("strong",), [1, 0]), (("fall", 0, 0), [0]), (("deal", 1), [1, 2, 0, 0, 0, 0]),
            (("mays",), [1, 1]), (("leave", 1), [0]), (("stable",), [1, 1]), (("on", 1), [0]), (("best", 0), [2, 1]),
            (("governs",), [-6]), (("look", 0), [7, 4, 9, 2, 3, 5, 6, 0, 0, 0]),
            (("state",), [1, 1, 2, 0, 0, 0, 1, 0]),
        ):
            with self.subTest(call=call):
                self.assertEqual(last(*ONE, call), expected)

    def test_it_governs(self):
        self.assertEqual(ask(*ONE, ("form", 1), ("governs",), ("state",), ("leaves", 0), ("governs",), ("state",))[2:],
                         [[2, 0, 0], [1, 0, 0, 0, 0, 0], [1, 1, 2, 0, 0, 1, 2, 0], [1], [-6], [1, 1, 2, 0, 0, 0, 3, 0]])


class FivePartiesFiveOffices(unittest.TestCase):
    def test_each_question(self):
        for call, expected in (
            (("vote", 3), [17, 0, 18]), (("stands", 3), [0]), (("stands", 7), [1]), (("fewest",), [3, 7]),
            (("smallest",), [18, 28]), (("part", 4), [11, 16]), (("middle",), [1, 2]),
            (("joined", 21), [0, 20, 21]), (("joined", 31), [1, 20, 35]), (("neighbours",), [3, 7, 14, 28]),
            (("narrowest",), [10, 28, 18]), (("centre",), [10, 90 + 40 + 30 + 50]),
            (("motion", 5, 15), [17, 11]), (("order", 31), [5, 0, 1, 2, 3, 4]), (("plain", 31), [5, 0, 1, 2, 3, 4]),
            (("ahead", 31), [5, 0, 1, 2, 3, 4]), (("alone", 31, 4), [10, 10]),
            (("gains", 31, 0), [5, 50, 40, 30, 20, 10]), (("gains", 31, 1), [5, 50, 40, 30, 20, 10]),
            (("swaps", 31, 0), [0]), (("swaps", 31, 1), [0]), (("beats", 2, 2, 4, 4), [1, 24, 5]),
            (("beaters", 2, 2), [0]), (("calm",), [1, 2, 2]), (("holding",), [1, 2, 2]), (("middles",), [1, 2, 2]),
            (("strong",), [1, 2]), (("deal", 31), [1, 1, 1, 1, 1, 1]), (("deal", 28), [1, 0, 0, 2, 2, 1]),
            (("deal", 1), [0, 5, 0, 0, 0, 0]), (("best", 4), [1, 19]), (("governs",), [-6]),
            (("look", 4), [5, 20, 20, 1, 1, 50, 40, 30, 20, 10]), (("state",), [5, 1, 5, 0, 0, 0, 5, 0]),
        ):
            with self.subTest(call=call):
                self.assertEqual(last(*FIVE, call), expected)

    def test_all_govern(self):
        self.assertEqual(ask(*FIVE, ("form", 31), ("governs",), ("leaves", 0), ("governs",), ("leaves", 4), ("governs",))[6:],
                         [[5, 0, 1, 2, 3, 4], [31, 0, 1, 2, 3, 4], [0], [30, 1, 2, 3, 4, 1], [0], [14, 1, 2, 3, 1, 2]])

    def test_all_sets_that_win(self):
        won = [s for s in range(1, 32) if sum(9 - i for i in range(5) if s >> i & 1) >= 18]
        self.assertEqual(ask(*FIVE, ("mays",), ("standing",))[6:], [[len(won)] + won] * 2)

    def test_all_want_the_same(self):
        same = hall([3, 3, 3, 3, 3], offices=5)
        self.assertEqual(ask(*same, ("calm",), ("holding",), ("middles",))[6:], [[25] + EVERY_SHARING] * 3)
        self.assertEqual(ask(*same, ("strong",), ("middle",))[6:], [[5, 0, 1, 2, 3, 4]] * 2)

    def test_a_sixth(self):
        self.assertEqual(ask(*FIVE, ("party", 1, 1, 1, 1, 1, [0] * 5), ("state",), ("look", 5))[6:],
                         [[-28], [5, 1, 5, 0, 0, 0, 5, 0], [-2]])


class AllCallsAreAnswered(unittest.TestCase):
    def test_none_is_missing(self):
        taken = {"begin": (0, 1), "party": (1, 1, 1, 1, 1, [1]), "seats": (0, 1), "wants": (0, 1, 1), "cares": (0, 1, 1),
                 "worth": (0, [1]), "like": (0, 1), "hate": (0, 1), "forget": (0, 1), "motion": (1, 1), "alone": (1, 0),
                 "gains": (1, 1), "swaps": (1, 1), "beats": (0, 0, 0, 0), "beaters": (0, 0), "unseaters": (0, 0),
                 "fall": (0, 0)}
        for name in "form vote stands joined order plain ahead deal leave on".split():
            taken[name] = (1,)
        for name in "leaves part best look".split():
            taken[name] = (0,)
        for name in NAMES:
            with self.subTest(name=name):
                self.assertGreaterEqual(len(last(*hall([3, 4]), (name, *taken.get(name, ())))), 1)
