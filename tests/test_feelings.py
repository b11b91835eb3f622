"""Point 2: like, hate, forget."""

import unittest

from tests.helper import ask, hall, last

THREE = hall([6, 5, 4])


class Like(unittest.TestCase):
    def test_it_goes_one_way(self):
        self.assertEqual(ask(*THREE, ("like", 0, 1), ("like", 0, 1), ("like", 1, 0), ("like", 1, 0))[4:],
                         [[0], [-17], [0], [-17]])
        self.assertEqual(ask(*THREE, ("like", 0, 1), ("vote", 2), ("vote", 1))[5:], [[11, 0, 4], [6, 0, 9]])

    def test_the_same(self):
        self.assertEqual(last(*THREE, ("like", 1, 1)), [-22])

    def test_beside_a_hate(self):
        self.assertEqual(ask(*THREE, ("hate", 0, 1), ("like", 0, 1), ("like", 1, 0))[4:], [[0], [0], [0]])
        self.assertEqual(ask(*THREE, ("like", 0, 1), ("hate", 0, 1), ("vote", 2))[4:], [[0], [0], [5, 6, 4]])

    def test_who_governs_stays(self):
        self.assertEqual(ask(*THREE, ("form", 1), ("like", 1, 0), ("like", 0, 1), ("resign",))[5:], [[0], [0], [1]])


class Hate(unittest.TestCase):
    def test_it_goes_both_ways(self):
        self.assertEqual(ask(*THREE, ("hate", 0, 1), ("hate", 0, 1), ("hate", 1, 0))[4:], [[0], [-17], [-17]])
        self.assertEqual(ask(*THREE, ("hate", 0, 1), ("vote", 1), ("vote", 2))[5:], [[6, 5, 4], [5, 6, 4]])

    def test_the_same(self):
        self.assertEqual(last(*THREE, ("hate", 2, 2)), [-22])

    def test_who_governs_goes_by_a_hate_within(self):
        for rule in range(3):
            with self.subTest(rule=rule):
                governed = hall([6, 5, 4], rule=rule) + [("form", 3)]
                self.assertEqual(ask(*governed, ("hate", 1, 0), ("resign",), ("stands", 3))[-3:], [[1], [-6], [0]])
                self.assertEqual(ask(*governed, ("hate", 2, 0), ("resign",))[-2:], [[0], [3]])

    def test_who_governs_goes_by_a_hate_from_outside(self):
        governed = hall([6, 6, 4], rule=0) + [("form", 1)]
        self.assertEqual(ask(*governed, ("hate", 1, 0), ("resign",))[-2:], [[1], [-6]])
        self.assertEqual(ask(*governed, ("hate", 2, 0), ("resign",))[-2:], [[0], [1]])
        self.assertEqual(ask(*governed, ("hate", 2, 1), ("resign",))[-2:], [[0], [1]])

    def test_who_governs_goes_by_a_hate_over_a_like(self):
        governed = hall([6, 6], rule=1) + [("like", 1, 0), ("form", 1)]
        self.assertEqual(ask(*governed, ("hate", 0, 1), ("resign",))[-2:], [[1], [-6]])


class Forget(unittest.TestCase):
    def test_neither(self):
        self.assertEqual(ask(*THREE, ("forget", 0, 1), ("forget", 1, 1))[4:], [[-6], [-6]])
        self.assertEqual(ask(*THREE, ("like", 0, 1), ("forget", 1, 0), ("forget", 0, 2))[4:], [[0], [-6], [-6]])

    def test_a_like(self):
        self.assertEqual(
            ask(*THREE, ("like", 0, 1), ("like", 1, 0), ("forget", 0, 1), ("forget", 0, 1), ("vote", 1), ("vote", 2))[6:],
            [[0], [-6], [11, 0, 4], [5, 0, 10]])

    def test_a_hate_from_either_side(self):
        for pair in ((0, 1), (1, 0)):
            with self.subTest(pair=pair):
                self.assertEqual(
                    ask(*THREE, ("hate", 0, 1), ("forget", *pair), ("forget", 0, 1), ("forget", 1, 0), ("stands", 3))[5:],
                    [[0], [-6], [-6], [1]])

    def test_both_at_once_but_not_what_the_other_likes(self):
        before = THREE + [("like", 0, 1), ("like", 1, 0), ("hate", 0, 1), ("forget", 0, 1)]
        self.assertEqual(ask(*before, ("like", 1, 0), ("like", 0, 1), ("hate", 0, 1))[7:],
                         [[0], [-17], [0], [0]])
        other = THREE + [("like", 0, 1), ("hate", 0, 1), ("forget", 1, 0)]
        self.assertEqual(ask(*other, ("like", 0, 1), ("hate", 0, 1), ("like", 1, 0))[6:], [[0], [-17], [0], [0]])

    def test_other_feelings_stay(self):
        before = THREE + [("like", 0, 1), ("like", 0, 2), ("hate", 0, 2), ("hate", 1, 2), ("forget", 0, 1)]
        self.assertEqual(ask(*before, ("like", 0, 2), ("hate", 0, 2), ("hate", 2, 1))[9:], [[-17], [-17], [-17]])

    def test_who_governs_goes_by_a_like_forgotten(self):
        governed = hall([6, 5, 4], rule=1) + [("like", 2, 0), ("like", 1, 0), ("form", 1)]
        self.assertEqual(ask(*governed, ("forget", 2, 0), ("resign",))[-2:], [[0], [1]])
        self.assertEqual(ask(*governed, ("forget", 2, 0), ("forget", 1, 0), ("resign",))[-3:], [[0], [1], [-6]])

    def test_who_governs_stays_by_a_hate_forgotten(self):
        governed = hall([6, 5, 4], rule=0) + [("hate", 1, 0), ("form", 1)]
        self.assertEqual(ask(*governed, ("forget", 0, 1), ("hate", 0, 2), ("resign",))[-3:], [[0], [0], [1]])
