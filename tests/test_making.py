"""Point 1: begin, party, seats, wants, cares, worth."""

import unittest

from tests.helper import LARGEST, ask, desk_after, hall, last


class Begin(unittest.TestCase):
    def test_all_rules_and_offices(self):
        for rule in range(3):
            for offices in range(1, 6):
                with self.subTest(rule=rule, offices=offices):
                    self.assertEqual(ask(("begin", rule, offices)), [[0]])

    def test_wrong_ones(self):
        for rule, offices in ((3, 1), (LARGEST, 1), (0, 0), (0, 6), (2, LARGEST), (3, 0), (3, 6)):
            with self.subTest(rule=rule, offices=offices):
                self.assertEqual(ask(("begin", rule, offices)), [[-22]])

    def test_anew_nothing_is_left(self):
        before = hall([3, 4, 5]) + [("hate", 0, 1), ("like", 0, 2), ("form", 4), ("resign",), ("back",)]
        for call, answer in ((("standing",), [0]), (("middle",), [0]), (("resign",), [-6]), (("back",), [-6]),
                             (("again",), [-6]), (("stands", 1), [-2]), (("party", 1, 1, 1, 1, 1, [1]), [0])):
            with self.subTest(call=call):
                self.assertEqual(last(*before, ("begin", 0, 1), call), answer)

    def test_anew_likes_and_hates_are_gone(self):
        before = hall([3, 4]) + [("hate", 0, 1), ("like", 0, 1)]
        self.assertEqual(ask(*before, *hall([3, 4]), ("forget", 0, 1), ("stands", 3))[-2:], [[-6], [1]])

    def test_anew_the_rule_and_the_offices_are_the_new_ones(self):
        anew = hall([3, 4], rule=0, offices=1) + hall([3, 4], rule=1, offices=3)
        self.assertEqual(ask(*anew, ("stands", 1), ("stands", 2), ("worth", 0, [1]), ("form", 2))[-4:],
                         [[0], [1], [-22], [3, 1, 1, 1]])
        self.assertEqual(last(*hall([3, 4], rule=1), *hall([3, 4], rule=0), ("stands", 1)), [1])


class PartyComes(unittest.TestCase):
    def test_numbered_as_they_come_and_no_sixth(self):
        self.assertEqual(ask(*hall([1, 2, 3, 4, 5, 6, 7])), [[0], [0], [1], [2], [3], [4], [-28], [-28]])

    def test_the_sixth_is_not_there(self):
        self.assertEqual(last(*hall([1, 2, 3, 4, 5, 200]), ("vote", 31)), [15, 0, 0])

    def test_after_one_is_taken_back_there_is_room(self):
        self.assertEqual(ask(*hall([1, 2, 3, 4, 5]), ("back",), ("party", 6, 0, 0, 1, 1, [0]), ("vote", 16))[-3:],
                         [[4], [4], [6, 0, 10]])

    def test_edges(self):
        for numbers, right in (
            ((1, 0, 0, 1, 1), True), ((200, 30, 30, 5, 5), True),
            ((0, 0, 0, 1, 1), False), ((201, 0, 0, 1, 1), False), ((LARGEST, 0, 0, 1, 1), False),
            ((1, 31, 0, 1, 1), False), ((1, 0, 31, 1, 1), False), ((1, LARGEST, 0, 1, 1), False),
            ((1, 0, 0, 0, 1), False), ((1, 0, 0, 6, 1), False), ((1, 0, 0, 1, 0), False), ((1, 0, 0, 1, 6), False),
            ((1, 0, 0, LARGEST, 1), False), ((1, 0, 0, 1, LARGEST), False), ((1, 0, LARGEST, 1, 1), False),
        ):
            with self.subTest(numbers=numbers):
                self.assertEqual(last(("begin", 0, 2), ("party", *numbers, [0, 50])), [0] if right else [-22])

    def test_worth_of_each_office(self):
        for offices in range(1, 6):
            for length in range(0, 21):
                with self.subTest(offices=offices, length=length):
                    self.assertEqual(last(("begin", 0, offices), ("party", 1, 0, 0, 1, 1, [50] * length)),
                                     [0] if length == offices else [-22])
        for worth in ([51, 0], [0, 51], [0, LARGEST]):
            with self.subTest(worth=worth):
                self.assertEqual(last(("begin", 0, 2), ("party", 1, 0, 0, 1, 1, worth)), [-22])

    def test_a_refused_one_is_not_counted(self):
        self.assertEqual(ask(("begin", 0, 1), ("party", 0, 0, 0, 1, 1, [0]), ("party", 1, 0, 0, 1, 1, [0]))[1:],
                         [[-22], [0]])

    def test_which_refusal_comes_first(self):
        five = hall([1, 2, 3, 4, 5])
        self.assertEqual(last(*five, ("party", 0, 0, 0, 1, 1, [0])), [-22])
        self.assertEqual(last(*five, ("form", 16), ("party", 0, 0, 0, 1, 1, [0])), [-22])
        self.assertEqual(last(*five, ("form", 16), ("party", 1, 0, 0, 1, 1, [0])), [-16])
        self.assertEqual(last(*hall([1]), ("form", 1), ("party", 1, 0, 0, 1, 1, [0])), [-16])
        self.assertEqual(last(*hall([1]), ("form", 1), ("resign",), ("party", 1, 0, 0, 1, 1, [0])), [1])

    def test_all_its_numbers_are_kept(self):
        desk = desk_after(("begin", 0, 3), ("party", 7, 8, 9, 2, 3, [4, 5, 6]))
        party = desk.current.parties[0]
        self.assertEqual((party.seats, party.wants, party.cares, party.worth), (7, (8, 9), (2, 3), (4, 5, 6)))


class Seats(unittest.TestCase):
    def test_that_is_so(self):
        self.assertEqual(ask(*hall([3, 4]), ("seats", 0, 200), ("vote", 1), ("seats", 0, 1), ("vote", 1))[3:],
                         [[0], [200, 0, 4], [0], [1, 0, 4]])

    def test_edges(self):
        for n, answer in ((0, [-22]), (1, [0]), (200, [0]), (201, [-22]), (LARGEST, [-22])):
            with self.subTest(n=n):
                self.assertEqual(last(*hall([3]), ("seats", 0, n)), answer)

    def test_the_rest_of_the_party_stays(self):
        desk = desk_after(("begin", 0, 2), ("party", 7, 8, 9, 2, 3, [4, 5]), ("seats", 0, 6))
        party = desk.current.parties[0]
        self.assertEqual((party.seats, party.wants, party.cares, party.worth), (6, (8, 9), (2, 3), (4, 5)))

    def test_who_governs_goes_at_just_half(self):
        governed = hall([6, 5], rule=1) + [("form", 1)]
        self.assertEqual(ask(*governed, ("seats", 1, 6), ("resign",))[-2:], [[1], [-6]])
        self.assertEqual(ask(*governed, ("seats", 0, 5), ("resign",))[-2:], [[1], [-6]])
        self.assertEqual(ask(*governed, ("seats", 1, 4), ("resign",))[-2:], [[0], [1]])
        self.assertEqual(ask(*governed, ("seats", 0, 6), ("resign",))[-2:], [[0], [1]])

    def test_who_governs_goes_by_those_against_it(self):
        for rule, last_good in ((0, 5), (2, 6)):
            with self.subTest(rule=rule):
                governed = hall([6, 5], rule=rule) + [("hate", 0, 1), ("form", 1)]
                self.assertEqual(ask(*governed, ("seats", 1, last_good), ("resign",))[-2:], [[0], [1]])
                self.assertEqual(ask(*governed, ("seats", 1, last_good + 1), ("resign",))[-2:], [[1], [-6]])

    def test_who_went_does_not_come_back_by_itself(self):
        governed = hall([6, 5], rule=1) + [("form", 1), ("seats", 1, 6)]
        self.assertEqual(ask(*governed, ("seats", 1, 5), ("resign",), ("form", 1))[-3:], [[0], [-6], [1, 0]])

    def test_the_offices_stay(self):
        worth = [[1, 2], [1, 2]]
        desk = desk_after(*hall([6, 5], offices=2, worth=worth), ("form", 3), ("seats", 1, 200))
        self.assertEqual((desk.current.cabinet, desk.current.holders), (3, [1, 0]))


class WantsCaresWorth(unittest.TestCase):
    def test_wants(self):
        self.assertEqual(ask(*hall([3, 4]), ("wants", 0, 30, 0), ("joined", 3), ("wants", 1, 10, 30), ("joined", 3))[3:],
                         [[0], [1, 30, 7], [0], [1, 20, 7]])
        for x, y in ((31, 0), (0, 31), (LARGEST, 0), (0, LARGEST)):
            with self.subTest(x=x, y=y):
                self.assertEqual(last(*hall([3]), ("wants", 0, x, y)), [-22])

    def test_cares(self):
        for p, q, answer in ((1, 1, [0]), (5, 5, [0]), (0, 1, [-22]), (1, 0, [-22]), (6, 1, [-22]), (1, 6, [-22]),
                             (LARGEST, 1, [-22]), (1, LARGEST, [-22])):
            with self.subTest(p=p, q=q):
                self.assertEqual(last(*hall([3]), ("cares", 0, p, q)), answer)

    def test_worth(self):
        before = hall([3], offices=2)
        for worth, answer in (([0, 50], [0]), ([50, 0], [0]), ([], [-22]), ([1], [-22]), ([1, 2, 3], [-22]),
                              ([0, 51], [-22]), ([51, 0], [-22]), ([0] * 20, [-22]), ([LARGEST, 0], [-22])):
            with self.subTest(worth=worth):
                self.assertEqual(last(*before, ("worth", 0, worth)), answer)

    def test_worth_counts_at_the_next_forming(self):
        two = hall([5, 4], offices=2, worth=[[9, 1], [0, 0]])
        self.assertEqual(last(*two, ("form", 3)), [2, 0, 1])
        self.assertEqual(last(*two, ("worth", 0, [1, 9]), ("form", 3)), [2, 1, 0])

    def test_all_is_kept_and_the_rest_stays(self):
        before = [("begin", 0, 2), ("party", 7, 8, 9, 2, 3, [4, 5]), ("party", 1, 1, 1, 1, 1, [1, 1])]
        for call, expected in (
            (("wants", 0, 20, 21), (7, (20, 21), (2, 3), (4, 5))),
            (("cares", 0, 4, 5), (7, (8, 9), (4, 5), (4, 5))),
            (("worth", 0, [30, 31]), (7, (8, 9), (2, 3), (30, 31))),
        ):
            with self.subTest(call=call):
                desk = desk_after(*before, call)
                found = [(one.seats, one.wants, one.cares, one.worth) for one in desk.current.parties]
                self.assertEqual(found, [expected, (1, (1, 1), (1, 1), (1, 1))])

    def test_who_governs_stays_with_the_same_offices(self):
        governed = hall([5, 4], rule=1, offices=2, worth=[[9, 1], [0, 0]]) + [("form", 3)]
        for call in (("wants", 0, 30, 30), ("cares", 0, 5, 5), ("worth", 0, [1, 9])):
            with self.subTest(call=call):
                self.assertEqual(ask(*governed, call, ("resign",))[-2:], [[0], [3]])
                self.assertEqual(desk_after(*governed, call).current.holders, [0, 1])
