"""Point 5: middle, joined, neighbours, narrowest, centre, motion; what holds by c."""

import unittest

from tests.helper import LARGEST, ask, hall, last

NOBODY = [("begin", 0, 1)]


class Middle(unittest.TestCase):
    def test_one(self):
        self.assertEqual(last(*hall([5, 4, 3], places=[10, 0, 30]), ("middle",)), [1, 0])
        self.assertEqual(last(*hall([9, 4, 3], places=[0, 10, 30]), ("middle",)), [1, 0])

    def test_just_half_on_a_side(self):
        self.assertEqual(last(*hall([5, 5], places=[7, 3]), ("middle",)), [2, 0, 1])
        self.assertEqual(last(*hall([2, 3, 5], places=[0, 1, 2]), ("middle",)), [2, 1, 2])
        self.assertEqual(last(*hall([2, 3, 6], places=[0, 1, 2]), ("middle",)), [1, 2])
        self.assertEqual(last(*hall([5, 3, 2], places=[0, 1, 2]), ("middle",)), [2, 0, 1])

    def test_two_who_want_the_same(self):
        self.assertEqual(last(*hall([1, 4, 3, 2], places=[5, 9, 5, 1]), ("middle",)), [2, 0, 2])

    def test_it_is_the_first_question(self):
        calls = [("begin", 0, 1), ("party", 1, 0, 15, 1, 1, [0]), ("party", 1, 15, 30, 1, 1, [0]),
                 ("party", 1, 30, 0, 1, 1, [0])]
        self.assertEqual(last(*calls, ("middle",)), [1, 1])

    def test_nobody_and_one(self):
        self.assertEqual(last(*NOBODY, ("middle",)), [0])
        self.assertEqual(last(*hall([7], places=[30]), ("middle",)), [1, 0])


class Joined(unittest.TestCase):
    def test_who_is_between(self):
        three = hall([5, 4, 3], places=[10, 0, 30])
        self.assertEqual(ask(*three, ("joined", 3), ("joined", 5), ("joined", 6), ("joined", 7), ("joined", 4))[4:],
                         [[1, 10, 9], [1, 20, 8], [0, 30, 7], [1, 30, 12], [1, 0, 3]])

    def test_at_the_place_of_one_of_the_two(self):
        same = hall([5, 4, 3], places=[10, 10, 20])
        self.assertEqual(ask(*same, ("joined", 5), ("joined", 6), ("joined", 3))[4:], [[1, 10, 8], [1, 10, 7], [1, 0, 9]])

    def test_at_the_place_of_a_third_within(self):
        # Party 3 stands where party 1 does, and that is between parties 0 and 2.
        self.assertEqual(ask(*hall([1, 1, 1, 1], places=[0, 5, 9, 5]), ("joined", 7), ("joined", 15), ("joined", 3))[5:],
                         [[0, 9, 3], [1, 9, 4], [1, 5, 2]])

    def test_feelings_do_not_count(self):
        self.assertEqual(last(*hall([5, 4], places=[1, 2]), ("hate", 0, 1), ("joined", 3)), [1, 1, 9])

    def test_the_second_question_does_not_count(self):
        self.assertEqual(last(*hall([5, 4], places=[1, 2]), ("wants", 1, 2, 30), ("joined", 3)), [1, 1, 9])


class Neighbours(unittest.TestCase):
    def test_rising(self):
        # On the line 1 (4 seats), 0 (5), 2 (3), of 12.
        self.assertEqual(last(*hall([5, 4, 3], places=[10, 0, 30]), ("neighbours",)), [2, 3, 5])

    def test_just_half_does_not_win(self):
        self.assertEqual(last(*hall([6, 3, 3], places=[0, 1, 2]), ("neighbours",)), [1, 3])
        self.assertEqual(last(*hall([6, 3, 2], places=[0, 1, 2]), ("neighbours",)), [1, 1])

    def test_one_within_is_not_given_up(self):
        # 7 wins without party 1 too, but is no row of neighbours then.
        self.assertEqual(last(*hall([5, 1, 5, 8], places=[0, 1, 2, 30]), ("neighbours",)), [2, 7, 12])

    def test_two_at_one_place(self):
        # Of those at one place at the edge either may be left out.
        self.assertEqual(last(*hall([4, 4, 4], places=[0, 5, 5]), ("neighbours",)), [3, 3, 5, 6])

    def test_feelings_do_not_count(self):
        self.assertEqual(last(*hall([5, 4], places=[0, 9]), ("hate", 0, 1), ("neighbours",)), [1, 1])
        self.assertEqual(last(*hall([5, 5], places=[0, 9]), ("hate", 0, 1), ("neighbours",)), [1, 3])

    def test_nobody_and_one(self):
        self.assertEqual(last(*NOBODY, ("neighbours",)), [0])
        self.assertEqual(last(*hall([7]), ("neighbours",)), [1, 1])

    def test_the_one_in_the_middle_is_of_every_winning_row(self):
        for seats in ([3, 4, 5, 6], [1, 9, 2, 2], [7, 1, 1, 7]):
            for places in ([0, 1, 2, 3], [3, 0, 2, 1], [5, 5, 9, 9], [4, 4, 1, 7]):
                calls = hall(seats, places=places)
                middle = last(*calls, ("middle",))
                if middle[0] == 1:
                    for group in last(*calls, ("neighbours",))[1:]:
                        with self.subTest(seats=seats, places=places, group=group):
                            self.assertTrue(group >> middle[1] & 1)


class Narrowest(unittest.TestCase):
    def test_least_wide(self):
        self.assertEqual(last(*hall([5, 4, 3], places=[10, 0, 30]), ("narrowest",)), [10, 3, 9])
        self.assertEqual(last(*hall([5, 4, 3], places=[10, 30, 0]), ("narrowest",)), [10, 5, 8])

    def test_of_like_wide_ones_fewest_seats(self):
        self.assertEqual(last(*hall([5, 4, 3], places=[10, 0, 20]), ("narrowest",)), [10, 5, 8])

    def test_of_like_ones_the_least(self):
        self.assertEqual(last(*hall([5, 4, 4], places=[10, 0, 20]), ("narrowest",)), [10, 3, 9])

    def test_it_need_not_be_a_row(self):
        # Party 1 stands between, and is left out: fewer seats.
        self.assertEqual(last(*hall([5, 1, 5], places=[0, 5, 10]), ("narrowest",)), [5, 3, 6])
        self.assertEqual(last(*hall([6, 1, 6, 1], places=[0, 5, 10, 30]), ("narrowest",)), [10, 5, 12])

    def test_just_half_does_not_win(self):
        self.assertEqual(last(*hall([5, 5], places=[0, 30]), ("narrowest",)), [30, 3, 10])
        self.assertEqual(last(*hall([5, 4], places=[0, 30]), ("narrowest",)), [0, 1, 5])

    def test_feelings_do_not_count(self):
        self.assertEqual(last(*hall([5, 5], places=[0, 30]), ("hate", 0, 1), ("narrowest",)), [30, 3, 10])

    def test_nobody_and_one(self):
        self.assertEqual(last(*NOBODY, ("narrowest",)), [-33])
        self.assertEqual(last(*hall([7], places=[9]), ("narrowest",)), [0, 1, 7])


class Centre(unittest.TestCase):
    def test_seats_weigh(self):
        # 3 * 10 + 1 * 20 from 0, 2 * 10 + 1 * 10 from 10.
        self.assertEqual(last(*hall([2, 3, 1], places=[0, 10, 20]), ("centre",)), [10, 30])
        self.assertEqual(last(*hall([9, 3, 1], places=[0, 10, 20]), ("centre",)), [0, 50])
        self.assertEqual(last(*hall([1, 3, 9], places=[0, 10, 30]), ("centre",)), [30, 90])

    def test_of_like_places_the_first(self):
        self.assertEqual(last(*hall([5, 5], places=[12, 7]), ("centre",)), [7, 25])
        self.assertEqual(last(*hall([2, 2, 1, 3], places=[3, 8, 20, 25]), ("centre",)), [8, 73])

    def test_two_who_want_the_same(self):
        self.assertEqual(last(*hall([3, 4, 5], places=[9, 9, 20]), ("centre",)), [9, 55])

    def test_the_second_question_does_not_count(self):
        self.assertEqual(last(*hall([3], places=[9]), ("wants", 0, 9, 30), ("centre",)), [9, 0])

    def test_how_much_it_cares_does_not_count(self):
        self.assertEqual(last(*hall([3, 2], places=[9, 0]), ("cares", 1, 5, 5), ("centre",)), [9, 18])

    def test_nobody_and_one(self):
        self.assertEqual(last(*NOBODY, ("centre",)), [0, 0])
        self.assertEqual(last(*hall([7], places=[30]), ("centre",)), [30, 0])


class Motion(unittest.TestCase):
    THREE = hall([5, 4, 3], places=[10, 0, 30])

    def test_nearer_to_the_one_and_to_the_other(self):
        self.assertEqual(ask(*self.THREE, ("motion", 0, 30), ("motion", 30, 0), ("motion", 10, 12))[-3:],
                         [[9, 3], [3, 9], [9, 3]])

    def test_just_between(self):
        self.assertEqual(ask(*self.THREE, ("motion", 5, 15), ("motion", 20, 0), ("motion", 0, 20))[-3:],
                         [[4, 3], [3, 4], [4, 3]])

    def test_the_same_place(self):
        self.assertEqual(ask(*self.THREE, ("motion", 10, 10), ("motion", 0, 0))[-2:], [[0, 0], [0, 0]])

    def test_it_is_the_first_question(self):
        self.assertEqual(last(*hall([5], places=[10]), ("wants", 0, 10, 30), ("motion", 9, 30)), [5, 0])

    def test_refused(self):
        self.assertEqual(
            ask(*self.THREE, ("motion", 31, 0), ("motion", 0, 31), ("motion", 31, 31), ("motion", LARGEST, 0),
                ("motion", 30, 30), ("motion", 0, LARGEST))[4:],
            [[-22], [-22], [-22], [-22], [0, 0], [-22]])

    def test_nobody(self):
        self.assertEqual(ask(*NOBODY, ("motion", 0, 30), ("motion", 0, 31))[1:], [[0, 0], [-22]])
