"""Point 8: deal, mays, leave, stable, on, best."""

import random
import unittest

from cabinetsdesk.chains import chain
from tests.helper import ask, hall, last

# Of 8 seats; offices dealt: 3 (3, 1, 0), 5 (2, 0, 2), 6 (0, 2, 2), 7 (2, 1, 1).
FOUR = hall([3, 2, 3], offices=4)
NOBODY = [("begin", 0, 3)]


class Deal(unittest.TestCase):
    def test_how_many_each_has(self):
        self.assertEqual(ask(*FOUR, ("deal", 3), ("deal", 5), ("deal", 6), ("deal", 7))[-4:],
                         [[1, 3, 1, 0, 0, 0], [1, 2, 0, 2, 0, 0], [1, 0, 2, 2, 0, 0], [1, 2, 1, 1, 0, 0]])

    def test_one_that_may_not_is_dealt_too(self):
        self.assertEqual(last(*FOUR, ("deal", 2)), [0, 0, 4, 0, 0, 0])
        self.assertEqual(last(*FOUR, ("hate", 0, 1), ("deal", 3)), [0, 3, 1, 0, 0, 0])
        self.assertEqual(last(*FOUR, ("hate", 0, 1), ("deal", 7)), [0, 2, 1, 1, 0, 0])

    def test_hates_outside_do_not_count(self):
        self.assertEqual(last(*FOUR, ("hate", 0, 1), ("deal", 5)), [1, 2, 0, 2, 0, 0])

    def test_just_half_does_not_win(self):
        self.assertEqual(ask(*hall([5, 5]), ("deal", 1), ("deal", 3))[-2:], [[0, 1, 0, 0, 0, 0], [1, 1, 0, 0, 0, 0]])
        self.assertEqual(last(*hall([6, 5]), ("deal", 1)), [1, 1, 0, 0, 0, 0])

    def test_likes_do_not_count(self):
        before = hall([4, 3, 2], rule=0) + [("like", 1, 0), ("like", 2, 0)]
        self.assertEqual(ask(*before, ("stands", 1), ("deal", 1))[-2:], [[1], [0, 1, 0, 0, 0, 0]])

    def test_one_has_no_office(self):
        self.assertEqual(last(*hall([9, 1], offices=2), ("deal", 3)), [1, 2, 0, 0, 0, 0])

    def test_five_parties(self):
        self.assertEqual(last(*hall([1, 2, 3, 4, 5], offices=5), ("deal", 31)), [1, 0, 1, 1, 1, 2])


class Mays(unittest.TestCase):
    def test_rising(self):
        self.assertEqual(last(*FOUR, ("mays",)), [4, 3, 5, 6, 7])

    def test_no_two_hate_each_other(self):
        self.assertEqual(last(*FOUR, ("hate", 2, 0), ("mays",)), [2, 3, 6])

    def test_just_half_does_not_win(self):
        self.assertEqual(last(*hall([5, 5]), ("mays",)), [1, 3])
        self.assertEqual(last(*hall([5, 5]), ("hate", 0, 1), ("mays",)), [0])

    def test_the_rule_does_not_count(self):
        for rule in range(3):
            self.assertEqual(last(*hall([3, 2, 3], rule=rule), ("mays",)), [4, 3, 5, 6, 7])

    def test_nobody_and_one(self):
        self.assertEqual(last(*NOBODY, ("mays",)), [0])
        self.assertEqual(last(*hall([1]), ("mays",)), [1, 1])


class Leave(unittest.TestCase):
    def test_each_of_the_new_has_more(self):
        self.assertEqual(ask(*FOUR, ("leave", 3), ("leave", 5), ("leave", 6), ("leave", 7))[-4:],
                         [[1, 6], [1, 3], [0], [1, 6]])

    def test_who_stays_behind_is_not_asked(self):
        # Party 0 loses all by it.
        self.assertEqual(last(*FOUR, ("leave", 3)), [1, 6])

    def test_one_that_may_not_govern_is_left_too(self):
        self.assertEqual(ask(*FOUR, ("leave", 1), ("leave", 2), ("leave", 4))[-3:], [[1, 6], [1, 5], [1, 3]])

    def test_several_rising(self):
        # Four with 3 seats each of 13, and a small one; all have one office in each three of the four.
        five = hall([3, 3, 3, 3, 1], offices=3)
        self.assertEqual(last(*five, ("leave", 16)), [4, 7, 11, 13, 14])

    def test_it_is_not_left_for_one_that_may_not_govern(self):
        self.assertEqual(last(*FOUR, ("hate", 1, 2), ("leave", 3)), [0])

    def test_who_has_no_office_in_it_does_not_come(self):
        # In 3 party 1 has none: it has no more than nobody.
        self.assertEqual(last(*hall([2, 1], offices=1), ("leave", 2)), [1, 1])
        self.assertEqual(last(*hall([2, 1, 1], offices=1), ("leave", 4)), [0])

    def test_as_many_is_not_more(self):
        self.assertEqual(last(*hall([2, 1], offices=1), ("leave", 3)), [0])
        self.assertEqual(last(*hall([2, 1], offices=2), ("leave", 3)), [0])
        self.assertEqual(last(*hall([2, 1], offices=3), ("leave", 3)), [1, 1])


class Stable(unittest.TestCase):
    def test_left_for_none(self):
        self.assertEqual(last(*FOUR, ("stable",)), [1, 6])

    def test_rising(self):
        self.assertEqual(last(*hall([2, 1, 4], offices=2), ("stable",)), [2, 4, 6])
        self.assertEqual(last(*hall([1, 1, 1]), ("stable",)), [4, 3, 5, 6, 7])

    def test_only_of_those_that_may_govern(self):
        # 3 and 5 may govern, and 5 is left for 3.
        self.assertEqual(last(*FOUR, ("hate", 1, 2), ("stable",)), [1, 3])

    def test_nobody_one_and_none(self):
        self.assertEqual(last(*NOBODY, ("stable",)), [0])
        self.assertEqual(last(*hall([1], offices=5), ("stable",)), [1, 1])
        self.assertEqual(last(*hall([2, 2]), ("hate", 0, 1), ("stable",)), [0])


class On(unittest.TestCase):
    def test_none_comes_behind(self):
        self.assertEqual(last(*FOUR, ("on", 6)), [0])
        self.assertEqual(last(*hall([2, 2]), ("hate", 0, 1), ("on", 1)), [0])
        self.assertEqual(last(*hall([2]), ("on", 1)), [0])

    def test_one_comes(self):
        self.assertEqual(ask(*FOUR, ("on", 3), ("on", 1), ("on", 7))[-3:], [[1, 6]] * 3)

    def test_several_come(self):
        self.assertEqual(ask(*FOUR, ("on", 5), ("on", 4), ("on", 2))[-3:], [[2, 3, 6], [2, 3, 6], [3, 5, 3, 6]])

    def test_always_the_first(self):
        self.assertEqual(last(*hall([3, 3, 3, 3, 1], offices=3), ("on", 16)), [1, 7])

    # All who come have more than before, so what the last turn was worth falls with each: none comes twice.
    def test_it_ends_with_one_that_is_left_for_none(self):
        chance = random.Random(8)
        for n in range(60):
            parties = chance.randint(1, 5)
            before = hall([chance.randint(1, 12) for _ in range(parties)], offices=chance.randint(1, 5))
            before += [("hate", i, j) for i in range(parties) for j in range(i) if chance.random() < 0.1]
            groups = range(1, 2 ** parties)
            found = ask(*before, *[("on", s) for s in groups], *[("leave", s) for s in groups])[len(before):]
            left = dict(zip(groups, found[len(groups):]))
            for s, come in zip(groups, found):
                row = [s] + come[1:]
                with self.subTest(before=before, s=s):
                    self.assertEqual(len(set(row)), come[0] + 1)
                    self.assertEqual([left[one][1] for one in row[:-1]], row[1:])
                    self.assertEqual(left[row[-1]], [0])


class Chains(unittest.TestCase):
    AFTER = {1: [2, 9], 2: [3], 3: [2, 1], 4: [4], 5: [], 6: [5], 7: [8, 1], 8: [7]}

    def test_none_comes(self):
        self.assertEqual(chain(5, self.AFTER.get), [])

    def test_till_none_does(self):
        self.assertEqual(chain(6, self.AFTER.get), [5])

    def test_one_that_was_there_already_is_the_last(self):
        self.assertEqual(chain(1, self.AFTER.get), [2, 3, 2])
        self.assertEqual(chain(4, self.AFTER.get), [4])
        self.assertEqual(chain(7, self.AFTER.get), [8, 7])


class Best(unittest.TestCase):
    def test_the_most(self):
        self.assertEqual(ask(*FOUR, ("best", 0), ("best", 1), ("best", 2))[-3:], [[3, 3], [2, 6], [2, 5]])
        self.assertEqual(last(*hall([3, 2, 1], offices=2), ("best", 0)), [2, 5])

    def test_of_like_ones_the_least(self):
        # Party 2 has two offices in 5 as in 6, party 0 one in 3, in 5 and in 7.
        self.assertEqual(last(*FOUR, ("best", 2)), [2, 5])
        self.assertEqual(last(*hall([3, 2, 2], offices=2), ("best", 0)), [1, 3])

    def test_none_at_the_most(self):
        # It is a set with the party that is told, though others deal it as few.
        self.assertEqual(last(*hall([2, 1], offices=1), ("best", 1)), [0, 3])
        self.assertEqual(last(*hall([1, 1], offices=1), ("best", 1)), [0, 3])

    def test_no_set_with_it_may_govern(self):
        hated = hall([1, 2]) + [("hate", 0, 1)]
        self.assertEqual(ask(*hated, ("best", 0), ("best", 1))[-2:], [[-33], [1, 2]])
        self.assertEqual(last(*hall([5, 5]), ("hate", 0, 1), ("best", 0)), [-33])

    def test_no_such_party_comes_first(self):
        self.assertEqual(last(*hall([5, 5]), ("hate", 0, 1), ("best", 2)), [-2])
