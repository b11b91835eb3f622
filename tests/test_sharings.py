"""Point 7: beats, beaters, unseaters, calm, holding, middles, strong, fall."""

import unittest

from tests.helper import ask, last


def made(*parties):
    """Each party: its seats, what it wants in the two questions, how much it cares for them."""
    return [("begin", 0, 1)] + [("party", *party, [0]) for party in parties]


# Party 1 is between the two others in both questions.
BETWEEN = made((1, 0, 0, 1, 1), (1, 10, 10, 1, 1), (1, 20, 20, 1, 1))
# What is done: by (0, 0) and (0, 1) 1 and 0, by (1, 1) 2 and 0, by (0, 2) 1 and 1.
ROUND = made((1, 1, 0, 2, 1), (1, 2, 0, 3, 1), (1, 5, 1, 1, 3))
# Party 1, holding both, is beaten, but only where it holds the first question.
STRONG = made((3, 3, 1, 2, 1), (2, 2, 0, 1, 2), (3, 0, 2, 2, 1))
# On one line; party 2 is as far from the one as from the other.
ONE_LINE = made((1, 0, 0, 1, 1), (4, 10, 0, 1, 1), (1, 5, 0, 1, 1))
SAME = made((3, 7, 9, 1, 2), (2, 7, 9, 3, 1))


class Beats(unittest.TestCase):
    def test_more_than_half(self):
        three = made((4, 0, 0, 1, 1), (3, 10, 10, 1, 1), (2, 10, 0, 1, 1))
        self.assertEqual(ask(*three, ("beats", 1, 0, 0, 0), ("beats", 0, 0, 1, 0))[-2:], [[1, 5, 4], [0, 4, 5]])

    def test_just_half(self):
        three = made((4, 0, 0, 1, 1), (2, 10, 10, 1, 1), (2, 10, 0, 1, 1))
        self.assertEqual(ask(*three, ("beats", 1, 0, 0, 0), ("beats", 0, 0, 1, 0))[-2:], [[0, 4, 4], [0, 4, 4]])

    def test_half_of_all_seats_not_of_those_who_care(self):
        # Party 0 is as far from the one as from the other, and its seats count among all.
        idle = made((2, 5, 0, 1, 1), (1, 0, 0, 1, 1), (1, 10, 0, 1, 1))
        self.assertEqual(last(*idle, ("beats", 1, 0, 2, 0)), [0, 1, 1])
        self.assertEqual(last(*idle, ("seats", 1, 3), ("beats", 1, 0, 2, 0)), [0, 3, 1])
        self.assertEqual(last(*idle, ("seats", 1, 4), ("beats", 1, 0, 2, 0)), [1, 4, 1])

    def test_how_much_it_cares(self):
        # From the third party the first sharing is 4 off in the second question, the second one 6 in the first.
        for cares, expected in (((1, 1), [1, 2, 1]), ((2, 3), [0, 1, 1]), ((1, 2), [0, 1, 2]), ((5, 1), [1, 2, 1])):
            with self.subTest(cares=cares):
                three = made((1, 10, 14, 1, 1), (1, 16, 10, 1, 1), (1, 10, 10, *cares))
                self.assertEqual(last(*three, ("beats", 0, 0, 1, 1)), expected)

    def test_each_question_has_its_own_holder(self):
        two = made((1, 0, 30, 1, 1), (1, 30, 0, 1, 1), (5, 0, 0, 1, 1))
        self.assertEqual(last(*two, ("beats", 0, 1, 1, 0)), [1, 5, 0])
        self.assertEqual(last(*two, ("beats", 0, 1, 2, 2)), [0, 0, 0])

    def test_the_same(self):
        self.assertEqual(ask(*SAME, ("beats", 0, 1, 0, 1), ("beats", 0, 0, 1, 1))[-2:], [[0, 0, 0], [0, 0, 0]])

    def test_no_such_party(self):
        for at in range(4):
            holders = [0, 1, 0, 1]
            holders[at] = 2
            self.assertEqual(last(*SAME, ("beats", *holders)), [-2])


class Beaters(unittest.TestCase):
    def test_in_order(self):
        # Party 1 is as far from (0, 2), (2, 0) and (2, 2) as from (0, 0).
        self.assertEqual(last(*BETWEEN, ("beaters", 0, 0)), [5, 0, 1, 1, 0, 1, 1, 1, 2, 2, 1])
        self.assertEqual(last(*ONE_LINE, ("beaters", 0, 0)), [6, 1, 0, 1, 1, 1, 2, 2, 0, 2, 1, 2, 2])

    def test_two_holders(self):
        self.assertEqual(ask(*ROUND, ("beaters", 0, 2), ("beaters", 2, 0))[-2:],
                         [[3, 0, 0, 0, 1, 1, 2], [6, 0, 0, 0, 1, 0, 2, 1, 0, 1, 1, 1, 2]])

    def test_whoever_holds(self):
        # By (1, 0) party 1 gives up what it wants: it beats (1, 1) all the same.
        self.assertEqual(last(*STRONG, ("beaters", 1, 1)), [1, 1, 0])

    def test_none(self):
        self.assertEqual(last(*BETWEEN, ("beaters", 1, 1)), [0])
        self.assertEqual(last(*SAME, ("beaters", 0, 1)), [0])

    def test_feelings_do_not_count(self):
        self.assertEqual(last(*BETWEEN, ("hate", 0, 1), ("like", 2, 0), ("beaters", 0, 0)),
                         [5, 0, 1, 1, 0, 1, 1, 1, 2, 2, 1])


class Unseaters(unittest.TestCase):
    def test_both_holders_would_rather(self):
        # Of those that beat it party 0 would have neither (0, 1) nor (1, 0).
        self.assertEqual(last(*BETWEEN, ("unseaters", 0, 0)), [3, 1, 1, 1, 2, 2, 1])

    def test_two_holders(self):
        # Of those that beat (2, 0) party 2 would rather have none, and is a holder of (0, 2) and (1, 2).
        self.assertEqual(ask(*ROUND, ("unseaters", 0, 2), ("unseaters", 2, 0))[-2:],
                         [[3, 0, 0, 0, 1, 1, 2], [4, 0, 0, 0, 1, 1, 0, 1, 1]])

    def test_one_of_its_holders_would_not(self):
        # The holder of the first question would not; with the questions turned round that of the second.
        self.assertEqual(last(*STRONG, ("unseaters", 1, 1)), [0])
        turned = made((3, 1, 3, 1, 2), (2, 0, 2, 2, 1), (3, 2, 0, 1, 2))
        self.assertEqual(ask(*turned, ("beaters", 1, 1), ("unseaters", 1, 1))[-2:], [[1, 0, 1], [0]])

    def test_a_holder_who_is_as_far_from_both(self):
        self.assertEqual(last(*ONE_LINE, ("unseaters", 0, 0)), [3, 1, 1, 2, 1, 2, 2])

    def test_those_who_held_before_are_not_asked(self):
        # Party 0 holds both now, and would not have any other sharing.
        self.assertEqual(last(*ROUND, ("unseaters", 0, 0)), [2, 1, 1, 1, 2])

    def test_it_must_beat_it_too(self):
        self.assertEqual(last(*made((1, 0, 0, 1, 1), (1, 10, 0, 1, 1)), ("unseaters", 0, 0)), [0])
        self.assertEqual(last(*made((1, 0, 0, 1, 1), (2, 10, 0, 1, 1)), ("unseaters", 0, 0)), [1, 1, 1])


class CalmAndHolding(unittest.TestCase):
    def test_one(self):
        self.assertEqual(ask(*BETWEEN, ("calm",), ("holding",))[-2:], [[1, 1, 1], [1, 1, 1]])

    def test_none(self):
        self.assertEqual(ask(*ROUND, ("calm",), ("holding",))[-2:], [[0], [0]])

    def test_more_hold_than_are_calm(self):
        self.assertEqual(ask(*STRONG, ("calm",), ("holding",))[-2:], [[0], [1, 1, 1]])
        three = made((2, 1, 1, 2, 3), (3, 0, 0, 1, 1), (3, 2, 0, 2, 2))
        self.assertEqual(ask(*three, ("calm",), ("holding",))[-2:], [[2, 0, 1, 0, 2], [3, 0, 0, 0, 1, 0, 2]])

    def test_just_half_beats_nothing(self):
        half = made((3, 0, 0, 1, 1), (3, 9, 9, 1, 1))
        every = [4, 0, 0, 0, 1, 1, 0, 1, 1]
        self.assertEqual(ask(*half, ("calm",), ("holding",))[-2:], [every, every])
        self.assertEqual(ask(*half, ("seats", 1, 4), ("calm",), ("holding",))[-2:], [[1, 1, 1], [1, 1, 1]])

    def test_who_want_the_same(self):
        every = [4, 0, 0, 0, 1, 1, 0, 1, 1]
        self.assertEqual(ask(*SAME, ("calm",), ("holding",))[-2:], [every, every])

    def test_nobody_and_one(self):
        self.assertEqual(ask(*made(), ("calm",), ("holding",))[1:], [[0], [0]])
        self.assertEqual(ask(*made((4, 3, 2, 1, 1)), ("calm",), ("holding",))[2:], [[1, 0, 0], [1, 0, 0]])


class Middles(unittest.TestCase):
    def test_each_by_its_own_question(self):
        crossed = made((1, 0, 10, 1, 1), (1, 10, 20, 1, 1), (1, 20, 0, 1, 1))
        self.assertEqual(last(*crossed, ("middles",)), [1, 1, 0])

    def test_several(self):
        # In the first question 0 and 1 with just half on a side each, in the second 1 and 2 want the same.
        several = made((2, 0, 0, 1, 1), (1, 5, 8, 1, 1), (1, 9, 8, 1, 1))
        self.assertEqual(last(*several, ("middles",)), [6, 0, 0, 0, 1, 0, 2, 1, 0, 1, 1, 1, 2])

    def test_beaten_ones_too(self):
        self.assertEqual(last(*ROUND, ("middles",)), [2, 1, 0, 1, 1])

    def test_nobody_and_one(self):
        self.assertEqual(last(*made(), ("middles",)), [0])
        self.assertEqual(last(*made((4, 3, 2, 1, 1)), ("middles",)), [1, 0, 0])


class Strong(unittest.TestCase):
    def test_beaten_by_none(self):
        self.assertEqual(last(*BETWEEN, ("strong",)), [1, 1])

    def test_beaten_only_where_it_holds_one(self):
        self.assertEqual(last(*STRONG, ("strong",)), [1, 1])
        turned = made((3, 1, 3, 1, 2), (2, 0, 2, 2, 1), (3, 2, 0, 1, 2))
        self.assertEqual(last(*turned, ("strong",)), [1, 1])

    def test_beaten_where_it_holds_nothing(self):
        self.assertEqual(last(*ROUND, ("strong",)), [0])

    def test_several(self):
        self.assertEqual(last(*SAME, ("strong",)), [2, 0, 1])
        self.assertEqual(last(*made((3, 0, 0, 1, 1), (3, 9, 9, 1, 1)), ("strong",)), [2, 0, 1])

    def test_nobody_and_one(self):
        self.assertEqual(last(*made(), ("strong",)), [0])
        self.assertEqual(last(*made((4, 3, 2, 1, 1)), ("strong",)), [1, 0])


class Fall(unittest.TestCase):
    def test_none_comes_behind(self):
        self.assertEqual(last(*BETWEEN, ("fall", 1, 1)), [0])
        self.assertEqual(last(*made((4, 3, 2, 1, 1)), ("fall", 0, 0)), [0])

    def test_one_comes(self):
        self.assertEqual(last(*BETWEEN, ("fall", 0, 0)), [1, 1, 1])

    def test_several_come(self):
        self.assertEqual(last(*made((1, 2, 0, 3, 1), (1, 1, 2, 1, 1), (4, 0, 1, 1, 2)), ("fall", 0, 0)),
                         [4, 1, 1, 0, 2, 1, 2, 2, 2])

    def test_always_the_first(self):
        # Both (1, 1) and others unseat it.
        self.assertEqual(ask(*ONE_LINE, ("unseaters", 0, 0), ("fall", 0, 0))[-2:],
                         [[3, 1, 1, 2, 1, 2, 2], [1, 1, 1]])

    def test_it_comes_itself_again(self):
        self.assertEqual(last(*ROUND, ("fall", 0, 0)), [3, 1, 1, 0, 2, 0, 0])

    def test_one_behind_it_comes_again(self):
        # (0, 1) does what (0, 0) does, and is another sharing.
        self.assertEqual(last(*ROUND, ("fall", 0, 1)), [4, 1, 1, 0, 2, 0, 0, 1, 1])
        self.assertEqual(last(*ROUND, ("fall", 1, 2)), [5, 1, 0, 0, 2, 0, 0, 1, 1, 0, 2])

    def test_no_such_party(self):
        self.assertEqual(ask(*SAME, ("fall", 2, 0), ("fall", 0, 2), ("beaters", 0, 2), ("unseaters", 2, 0))[-4:],
                         [[-2]] * 4)
