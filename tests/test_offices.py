"""Point 6: order, plain, ahead, alone, gains, swaps."""

import random
import unittest

from tests.helper import LARGEST, ask, hall, last

# Turns 0, 1, 0. If party 0 leaves its best office for later, party 1 doesn't take it.
PATIENT = hall([5, 4], offices=3, worth=[[10, 9, 0], [1, 10, 5]])
# Turns 0, 1, 2, 0. Party 0 gets 5 at the most in the end by the offices 0 and 3, 6 by office 1, 4 by office 2.
SWAPPING = hall([8, 6, 5], offices=4, worth=[[4, 2, 3, 1], [1, 4, 2, 3], [2, 4, 3, 1]])
# Turns 0, 1, 0, 1.
FOUR = hall([1, 1], offices=4, worth=[[4, 6, 5, 3], [1, 2, 6, 3]])


class Order(unittest.TestCase):
    def test_seats_divided_by_one_more_than_the_offices_had(self):
        # 12, 7, 6 (12 / 2), 5, 4 (12 / 3).
        self.assertEqual(last(*hall([12, 5, 7], offices=5), ("order", 7)), [5, 0, 2, 0, 1, 0])

    def test_of_like_ones_the_first_party(self):
        self.assertEqual(last(*hall([6, 3], offices=3), ("order", 3)), [3, 0, 0, 1])
        self.assertEqual(last(*hall([3, 6], offices=3), ("order", 3)), [3, 1, 0, 1])
        self.assertEqual(last(*hall([7, 7, 7], offices=5), ("order", 7)), [5, 0, 1, 2, 0, 1])

    def test_divided_without_loss(self):
        # 10 / 3 is more than 3.
        self.assertEqual(last(*hall([3, 10], offices=4), ("order", 3)), [4, 1, 1, 1, 0])

    def test_only_who_is_of_the_set(self):
        four = hall([9, 6, 5, 4], offices=3)
        self.assertEqual(ask(*four, ("order", 12), ("order", 10), ("order", 8))[5:],
                         [[3, 2, 3, 2], [3, 1, 3, 1], [3, 3, 3, 3]])

    def test_one_has_no_turn(self):
        self.assertEqual(last(*hall([9, 1], offices=2), ("order", 3)), [2, 0, 0])

    def test_one_office(self):
        self.assertEqual(last(*hall([1, 9]), ("order", 3)), [1, 1])

    def test_they_need_neither_stand_nor_win(self):
        before = hall([2, 3, 9], rule=1, offices=2) + [("hate", 0, 1)]
        self.assertEqual(ask(*before, ("stands", 3), ("order", 3), ("plain", 3), ("ahead", 3))[-4:],
                         [[0], [2, 1, 0], [2, 0, 1], [2, 0, 1]])

    def test_by_the_seats_of_now(self):
        self.assertEqual(last(*hall([6, 3], offices=3), ("seats", 1, 4), ("order", 3)), [3, 0, 1, 0])


class Plain(unittest.TestCase):
    def test_turn_by_turn(self):
        # Turns 0, 0, 1.
        self.assertEqual(last(*hall([6, 3], offices=3, worth=[[1, 5, 3], [9, 8, 7]]), ("plain", 3)), [3, 1, 2, 0])

    def test_of_like_ones_the_first(self):
        self.assertEqual(last(*hall([6, 5], offices=4, worth=[[1, 7, 7, 7], [8, 8, 8, 8]]), ("plain", 3)),
                         [4, 1, 0, 2, 3])

    def test_it_does_not_look_ahead(self):
        self.assertEqual(last(*PATIENT, ("plain", 3)), [3, 0, 1, 2])
        self.assertEqual(last(*FOUR, ("plain", 3)), [4, 1, 2, 0, 3])

    def test_as_when_formed(self):
        found = ask(*SWAPPING, ("order", 7), ("plain", 7), ("form", 7))[-3:]
        holders = [None] * 4
        for party, office in zip(found[0][1:], found[1][1:]):
            holders[office] = party
        self.assertEqual(found[2][1:], holders)


class Ahead(unittest.TestCase):
    def test_the_best_is_left_for_later(self):
        self.assertEqual(last(*PATIENT, ("ahead", 3)), [3, 1, 2, 0])

    def test_three_parties(self):
        self.assertEqual(last(*SWAPPING, ("ahead", 7)), [4, 1, 3, 2, 0])

    def test_all_behind_look_ahead_too(self):
        # Against one who chooses plainly party 0 would take office 2 first, and get 11.
        self.assertEqual(last(*FOUR, ("ahead", 3)), [4, 0, 2, 1, 3])

    def test_of_like_ones_the_first(self):
        # By office 0 as by office 1 party 0 has both in the end.
        self.assertEqual(last(*hall([5, 4], offices=3, worth=[[5, 5, 0], [0, 0, 9]]), ("ahead", 3)), [3, 0, 2, 1])
        self.assertEqual(last(*hall([5, 4], offices=5), ("ahead", 3)), [5, 0, 1, 2, 3, 4])

    def test_like_in_the_end_though_not_alike_now(self):
        # Turns 0, 0, 1: office 2, then 1, gives as much as office 1, then 2.
        self.assertEqual(last(*hall([6, 3], offices=3, worth=[[1, 3, 9], [1, 1, 1]]), ("ahead", 3)), [3, 1, 2, 0])

    def test_one_party(self):
        # It gets all of them, whatever it takes first.
        self.assertEqual(last(*hall([6], offices=3, worth=[[1, 9, 5]]), ("ahead", 1)), [3, 0, 1, 2])
        self.assertEqual(last(*hall([6], offices=3, worth=[[1, 9, 5]]), ("plain", 1)), [3, 1, 2, 0])

    def test_one_office(self):
        self.assertEqual(last(*hall([6, 7], worth=[[1], [0]]), ("ahead", 3)), [1, 0])


class Alone(unittest.TestCase):
    def test_one_looks_ahead_and_all_others_do_not(self):
        self.assertEqual(ask(*PATIENT, ("alone", 3, 0), ("alone", 3, 1))[-2:], [[19, 10], [10, 10]])
        self.assertEqual(ask(*FOUR, ("alone", 3, 0), ("gains", 3, 1), ("gains", 3, 0))[-3:],
                         [[11, 10], [2, 10, 9], [2, 10, 9]])

    def test_the_first_turn_may_be_anothers(self):
        # Turns 0, 1, 0, 1. Party 1 can leave office 2, which is worth nothing to party 0, for the end.
        before = hall([2, 2], offices=4, worth=[[9, 8, 0, 1], [0, 5, 9, 4]])
        self.assertEqual(ask(*before, ("plain", 3), ("alone", 3, 1))[-2:], [[4, 0, 2, 1, 3], [14, 13]])

    def test_of_like_ones_the_first(self):
        # Both offices 0 and 1 give it 5 in the end; it is what it gets that is answered.
        self.assertEqual(last(*hall([5, 4], offices=2, worth=[[5, 5], [1, 2]]), ("alone", 3, 0)), [5, 5])

    def test_one_without_an_office_gets_nothing(self):
        self.assertEqual(last(*hall([9, 1], offices=2, worth=[[1, 2], [3, 4]]), ("alone", 3, 1)), [0, 0])

    def test_one_party(self):
        self.assertEqual(last(*hall([6], offices=3, worth=[[1, 9, 5]]), ("alone", 1, 0)), [15, 15])

    def test_who_is_not_of_it(self):
        three = hall([5, 4, 3], offices=2)
        self.assertEqual(ask(*three, ("alone", 3, 2), ("alone", 6, 0), ("alone", 4, 2))[-3:], [[-6], [-6], [0, 0]])

    def test_no_such_party_comes_first(self):
        three = hall([5, 4, 3], offices=2)
        self.assertEqual(ask(*three, ("alone", 3, 3), ("alone", 8, 0), ("alone", 0, 0), ("alone", 0, 9))[-4:], [[-2]] * 4)


class Gains(unittest.TestCase):
    def test_plainly_and_ahead(self):
        self.assertEqual(ask(*PATIENT, ("gains", 3, 0), ("gains", 3, 1))[-2:], [[2, 10, 10], [2, 19, 5]])
        self.assertEqual(ask(*SWAPPING, ("gains", 7, 0), ("gains", 7, 1))[-2:], [[3, 5, 4, 3], [3, 6, 3, 3]])

    def test_only_who_is_of_it(self):
        self.assertEqual(ask(*SWAPPING, ("gains", 5, 0), ("gains", 4, 1))[-2:], [[2, 8, 4], [1, 10]])

    def test_one_without_an_office_is_told_too(self):
        before = hall([1, 9, 9], offices=2, worth=[[1, 2], [3, 4], [5, 7]])
        self.assertEqual(ask(*before, ("gains", 7, 0), ("gains", 7, 1))[-2:], [[3, 0, 4, 5], [3, 0, 4, 5]])

    def test_refused(self):
        self.assertEqual(ask(*PATIENT, ("gains", 3, 2), ("gains", 3, LARGEST), ("gains", 4, 2))[-3:], [[-22], [-22], [-2]])


class Swaps(unittest.TestCase):
    def test_two_who_both_would_rather(self):
        # Party 0 has the offices 0 and 1, party 2 has office 2.
        self.assertEqual(last(*SWAPPING, ("swaps", 7, 1)), [1, 1, 2])

    def test_more_than_one_pair(self):
        worth = [[3, 4, 2, 5, 1], [2, 1, 3, 5, 4], [3, 2, 1, 5, 4], [3, 1, 5, 2, 4], [4, 1, 3, 5, 2]]
        five = hall([5, 4, 5, 9, 5], offices=5, worth=worth)
        self.assertEqual(ask(*five, ("order", 31), ("ahead", 31), ("swaps", 31, 1))[-3:],
                         [[5, 3, 0, 2, 4, 3], [5, 3, 1, 4, 0, 2], [2, 0, 3, 3, 4]])

    def test_pairs_of_one_lesser_office(self):
        # The same, but for the offices 0 and 3, each in the other's place.
        worth = [[5, 4, 2, 3, 1], [5, 1, 3, 2, 4], [5, 2, 1, 3, 4], [2, 1, 5, 3, 4], [5, 1, 3, 4, 2]]
        five = hall([5, 4, 5, 9, 5], offices=5, worth=worth)
        self.assertEqual(ask(*five, ("ahead", 31), ("swaps", 31, 1))[-2:], [[5, 0, 1, 4, 3, 2], [2, 0, 3, 0, 4]])

    def test_plainly_there_are_none(self):
        chance = random.Random(6)
        for n in range(150):
            parties = chance.randint(1, 5)
            offices = chance.randint(1, 5)
            worth = [[chance.randint(0, 6) for _ in range(offices)] for _ in range(parties)]
            before = hall([chance.randint(1, 9) for _ in range(parties)], offices=offices, worth=worth)
            with self.subTest(before=before):
                self.assertEqual(last(*before, ("swaps", 2 ** parties - 1, 0)), [0])

    def test_one_would_not(self):
        # Ahead party 0 has the offices 1 and 0, party 1 has office 2, that it would give for office 1.
        self.assertEqual(last(*PATIENT, ("swaps", 3, 1)), [0])

    def test_worth_the_same_is_not_more(self):
        self.assertEqual(last(*hall([5, 4], offices=2, worth=[[3, 3], [3, 3]]), ("swaps", 3, 1)), [0])

    def test_refused(self):
        self.assertEqual(ask(*PATIENT, ("swaps", 3, 2), ("swaps", 3, LARGEST), ("swaps", 4, 2), ("swaps", 0, 2))[-4:],
                         [[-22], [-22], [-2], [-2]])
