"""Point 4: vote, stands, standing, tight, fewest, smallest, part."""

import unittest

from tests.helper import ask, hall, last

NOBODY = [("begin", 0, 1)]
FEELINGS = [("hate", 0, 1), ("like", 3, 0), ("like", 1, 2), ("like", 3, 1)]


def four(rule):
    return hall([10, 8, 6, 4], rule=rule) + FEELINGS


class Vote(unittest.TestCase):
    def test_for_against_neither(self):
        self.assertEqual(ask(*four(0), ("vote", 1), ("vote", 2), ("vote", 4), ("vote", 8))[9:],
                         [[14, 8, 6], [12, 10, 6], [14, 0, 14], [4, 0, 24]])

    def test_a_hate_comes_before_a_like(self):
        # Party 1 likes party 2 but hates party 0.
        self.assertEqual(last(*four(0), ("vote", 5)), [20, 8, 0])

    def test_a_set_at_odds_within_votes_for_itself(self):
        self.assertEqual(last(*four(0), ("vote", 3)), [22, 0, 6])

    def test_all(self):
        self.assertEqual(last(*four(0), ("vote", 15)), [28, 0, 0])
        self.assertEqual(last(*hall([200]), ("vote", 1)), [200, 0, 0])

    def test_the_liked_does_not_vote_for_who_likes_them(self):
        self.assertEqual(last(*hall([3, 4]), ("like", 0, 1), ("vote", 1)), [3, 0, 4])


class Stands(unittest.TestCase):
    def test_more_for_than_against(self):
        for against, answer in ((5, [1]), (6, [0]), (7, [0])):
            with self.subTest(against=against):
                self.assertEqual(last(*hall([6, against, 50]), ("hate", 0, 1), ("stands", 1)), answer)

    def test_more_than_half_for_it(self):
        for others, answer in ((5, [1]), (6, [0]), (7, [0])):
            with self.subTest(others=others):
                self.assertEqual(last(*hall([6, others], rule=1), ("stands", 1)), answer)
        self.assertEqual(last(*hall([6, 6], rule=1), ("like", 1, 0), ("stands", 1)), [1])

    def test_not_more_than_half_against_it(self):
        for against, answer in ((5, [1]), (6, [1]), (7, [0])):
            with self.subTest(against=against):
                self.assertEqual(last(*hall([6, against], rule=2), ("hate", 0, 1), ("stands", 1)), answer)
        self.assertEqual(last(*hall([1, 200], rule=2), ("stands", 1)), [1])
        self.assertEqual(last(*hall([3, 5, 3], rule=2), ("hate", 0, 1), ("stands", 1)), [1])

    def test_two_of_it_who_hate_each_other(self):
        for rule in range(3):
            with self.subTest(rule=rule):
                three = hall([6, 5, 4], rule=rule) + [("hate", 0, 2)]
                self.assertEqual(ask(*three, ("stands", 3), ("stands", 5), ("stands", 6), ("stands", 7))[5:],
                                 [[1], [0], [1], [0]])

    def test_likes_do_not_hold_a_set_at_odds(self):
        self.assertEqual(last(*hall([6, 5]), ("like", 0, 1), ("like", 1, 0), ("hate", 0, 1), ("stands", 3)), [0])


class Standing(unittest.TestCase):
    def test_rising(self):
        self.assertEqual(last(*hall([6, 5, 4], rule=1), ("standing",)), [4, 3, 5, 6, 7])
        self.assertEqual(last(*hall([6, 5, 4], rule=0), ("standing",)), [7, 1, 2, 3, 4, 5, 6, 7])

    def test_by_feelings(self):
        # 1: 14 to 8; 2: 12 to 10; 4, 8: none against; 5, 6, 9, 10, 12, 13, 14 likewise; 3, 7, 11, 15 at odds.
        self.assertEqual(last(*four(0), ("standing",)), [11, 1, 2, 4, 5, 6, 8, 9, 10, 12, 13, 14])

    def test_not_more_than_half_against_it(self):
        # Of 15 party 0 has 8, too many against party 1 and against 6.
        calls = hall([8, 5, 2], rule=2) + [("hate", 0, 1)]
        self.assertEqual(ask(*calls, ("standing",), ("tight",), ("fewest",), ("smallest",), ("part", 1), ("part", 2))[5:],
                         [[3, 1, 4, 5], [2, 1, 4], [1, 1], [2, 4], [0, 3], [2, 3]])
        self.assertEqual(last(*hall([6, 5, 4], rule=2), ("hate", 0, 1), ("standing",)), [5, 1, 2, 4, 5, 6])
        self.assertEqual(last(*hall([1, 2], rule=2), ("standing",)), [3, 1, 2, 3])

    def test_nobody_and_one(self):
        self.assertEqual(last(*NOBODY, ("standing",)), [0])
        self.assertEqual(last(("begin", 2, 1), ("standing",)), [0])
        self.assertEqual(last(*hall([1], rule=1), ("standing",)), [1, 1])

    def test_none(self):
        none = hall([5, 5], rule=1) + [("hate", 0, 1)]
        self.assertEqual(ask(*none, ("standing",), ("tight",), ("fewest",), ("smallest",), ("part", 0))[4:],
                         [[0], [0], [-33], [-33], [0, 0]])


class Tight(unittest.TestCase):
    def test_without_any_one(self):
        self.assertEqual(last(*hall([6, 5, 4], rule=1), ("tight",)), [3, 3, 5, 6])
        self.assertEqual(last(*hall([6, 5, 4], rule=0), ("tight",)), [3, 1, 2, 4])

    def test_one_without_whom_it_stands_is_enough_to_be_out(self):
        # 7 stands without party 2, not without party 0.
        self.assertEqual(last(*hall([8, 4, 1], rule=1), ("tight",)), [1, 1])
        self.assertEqual(last(*hall([6, 4, 2], rule=1), ("tight",)), [2, 3, 5])

    def test_only_one_at_a_time_is_taken_away(self):
        # 7 has 6 to 5, each two of it 4 or fewer to 5; that 1 stands by itself doesn't matter.
        calls = hall([2, 2, 2, 5]) + [("hate", 3, 1), ("hate", 3, 2)]
        self.assertEqual(ask(*calls, ("standing",), ("tight",))[-2:], [[4, 1, 7, 8, 9], [3, 1, 7, 8]])

    def test_nobody_and_one(self):
        self.assertEqual(last(*NOBODY, ("tight",)), [0])
        self.assertEqual(last(*hall([1]), ("tight",)), [1, 1])


class FewestAndSmallest(unittest.TestCase):
    def test_fewest(self):
        self.assertEqual(last(*hall([6, 5, 4], rule=1), ("fewest",)), [2, 3])
        self.assertEqual(last(*hall([2, 3, 9], rule=1), ("fewest",)), [1, 4])
        self.assertEqual(last(*hall([2, 2, 2, 2, 2], rule=1), ("fewest",)), [3, 7])

    def test_smallest(self):
        self.assertEqual(last(*hall([6, 5, 4], rule=1), ("smallest",)), [9, 6])
        self.assertEqual(last(*hall([4, 5, 6, 1], rule=0), ("smallest",)), [1, 8])
        self.assertEqual(last(*hall([2, 2, 2, 2, 2], rule=1), ("smallest",)), [6, 7])

    def test_smallest_counts_only_its_own_parties(self):
        self.assertEqual(last(*hall([3, 6, 2], rule=1), ("like", 1, 2), ("smallest",)), [2, 4])

    def test_smallest_may_have_more_parties(self):
        # Two with 11 of 17, three with 9.
        self.assertEqual(ask(*hall([3, 3, 3, 8], rule=1), ("fewest",), ("smallest",))[5:], [[2, 9], [9, 7]])

    def test_nobody_and_one(self):
        self.assertEqual(ask(*NOBODY, ("fewest",), ("smallest",))[1:], [[-33], [-33]])
        self.assertEqual(ask(*hall([7]), ("fewest",), ("smallest",))[2:], [[1, 1], [7, 1]])


class Part(unittest.TestCase):
    def test_of_how_many(self):
        self.assertEqual(ask(*hall([6, 5, 4], rule=1), ("part", 0), ("part", 1), ("part", 2))[4:],
                         [[3, 4], [3, 4], [3, 4]])
        self.assertEqual(ask(*hall([9, 2, 3], rule=1), ("part", 0), ("part", 1), ("part", 2))[4:],
                         [[4, 4], [2, 4], [2, 4]])

    def test_one(self):
        self.assertEqual(last(*hall([9]), ("part", 0)), [1, 1])
