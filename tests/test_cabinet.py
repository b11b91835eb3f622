"""Point 3: form, leaves, resign, back, again; what holds by a, b and f."""

import unittest

from tests.helper import ask, desk_after, hall, last, photo, photo_after


class Form(unittest.TestCase):
    def test_turns_and_plain_choices(self):
        # Turns 0, 0 (6 / 2 is like 3 / 1, the first party), 1.
        worth = [[1, 5, 3], [9, 9, 9]]
        self.assertEqual(last(*hall([6, 3], offices=3, worth=worth), ("form", 3)), [3, 1, 0, 0])

    def test_like_seats_go_by_the_party(self):
        # Turns 0, 1, 0, 1, 0.
        worth = [[1, 2, 3, 4, 5], [1, 2, 3, 4, 5]]
        self.assertEqual(last(*hall([7, 7], offices=5, worth=worth), ("form", 3)), [5, 0, 1, 0, 1, 0])

    def test_seats_are_divided_without_loss(self):
        # Party 1 has 10, then 5, then 3 1/3: that is more than party 0's 3, and rounded it would be alike.
        worth = [[9, 8, 7, 6], [9, 8, 7, 6]]
        self.assertEqual(last(*hall([3, 10], offices=4, worth=worth), ("form", 3)), [4, 1, 1, 1, 0])

    def test_of_like_offices_the_first(self):
        self.assertEqual(last(*hall([6, 5], offices=2, worth=[[3, 3], [4, 4]]), ("form", 3)), [2, 0, 1])

    def test_two_who_want_the_same(self):
        self.assertEqual(last(*hall([5, 6], offices=2, worth=[[9, 1], [9, 1]]), ("form", 3)), [2, 1, 0])

    def test_one_has_no_office(self):
        self.assertEqual(last(*hall([6, 5, 4], offices=2, worth=[[1, 2]] * 3), ("form", 7)), [2, 1, 0])

    def test_one_party_has_all(self):
        self.assertEqual(last(*hall([6], offices=5), ("form", 1)), [5, 0, 0, 0, 0, 0])
        self.assertEqual(last(*hall([6, 9], offices=1), ("form", 2)), [1, 1])

    def test_an_office_of_no_worth_is_taken_too(self):
        self.assertEqual(last(*hall([6, 1], offices=2, worth=[[0, 0], [0, 7]]), ("form", 1)), [2, 0, 0])

    def test_refused(self):
        before = hall([6, 5, 4], rule=1) + [("hate", 0, 1)]
        self.assertEqual(last(*before, ("form", 3)), [-33])
        self.assertEqual(last(*before, ("form", 4)), [-33])
        self.assertEqual(last(*before, ("form", 5), ("form", 5)), [-16])
        self.assertEqual(last(*before, ("form", 5), ("form", 3)), [-16])

    def test_no_two_would_both_rather_swap(self):
        for first in ([1, 2, 3], [3, 2, 1], [2, 3, 1], [5, 5, 5]):
            for second in ([1, 2, 3], [3, 1, 2], [4, 4, 1]):
                for third in ([1, 2, 3], [2, 1, 3]):
                    worth = [first, second, third]
                    holders = last(*hall([5, 4, 3], offices=3, worth=worth), ("form", 7))[1:]
                    for a in range(3):
                        for b in range(a):
                            one, other = worth[holders[a]], worth[holders[b]]
                            with self.subTest(worth=worth, a=a, b=b):
                                self.assertFalse(one[b] > one[a] and other[a] > other[b])


class Leaves(unittest.TestCase):
    def test_the_others_govern_on_with_offices_chosen_anew(self):
        worth = [[9, 8, 1], [9, 8, 1], [9, 8, 1]]
        governed = hall([6, 5, 4], rule=1, offices=3, worth=worth) + [("like", 0, 1), ("form", 7)]
        self.assertEqual(desk_after(*governed).current.holders, [0, 1, 2])
        self.assertEqual(ask(*governed, ("leaves", 0), ("resign",))[-2:], [[0], [6]])
        # Turns 1, 2, 1.
        self.assertEqual(desk_after(*governed, ("leaves", 0)).current.holders, [1, 2, 1])

    def test_anew_by_what_is_so_then(self):
        worth = [[9, 1], [9, 1], [9, 1]]
        governed = hall([6, 5, 4], offices=2, worth=worth) + [("form", 7), ("seats", 2, 9), ("worth", 2, [1, 9])]
        self.assertEqual(desk_after(*governed).current.holders, [0, 1])
        self.assertEqual(desk_after(*governed, ("leaves", 0)).current.holders, [1, 2])
        self.assertEqual(desk_after(*governed, ("leaves", 1)).current.holders, [0, 2])

    def test_the_others_do_not_stand(self):
        governed = hall([6, 5, 4], rule=1) + [("form", 3)]
        self.assertEqual(ask(*governed, ("leaves", 1), ("resign",))[-2:], [[1], [-6]])
        self.assertEqual(desk_after(*governed, ("leaves", 1)).current.holders, [])

    def test_who_left_votes_as_the_others_do(self):
        liked = hall([6, 5, 4], rule=1) + [("like", 1, 0), ("form", 3)]
        self.assertEqual(ask(*liked, ("leaves", 1), ("resign",))[-2:], [[0], [1]])

    def test_the_last_that_leaves(self):
        for rule in range(3):
            with self.subTest(rule=rule):
                governed = hall([6], rule=rule) + [("form", 1)]
                self.assertEqual(ask(*governed, ("leaves", 0), ("resign",), ("form", 1))[-3:], [[1], [-6], [1, 0]])

    def test_one_behind_another(self):
        governed = hall([6, 5, 4]) + [("form", 7)]
        self.assertEqual(ask(*governed, ("leaves", 0), ("leaves", 0), ("leaves", 2), ("leaves", 1), ("leaves", 1))[-5:],
                         [[0], [-6], [0], [1], [-6]])

    def test_who_does_not_govern(self):
        self.assertEqual(last(*hall([6, 5]), ("leaves", 0)), [-6])
        self.assertEqual(last(*hall([6, 5]), ("form", 1), ("leaves", 1)), [-6])


class Resign(unittest.TestCase):
    def test_who_did(self):
        five = hall([1, 2, 3, 4, 5])
        for group in (1, 16, 22, 31):
            with self.subTest(group=group):
                self.assertEqual(ask(*five, ("form", group), ("resign",), ("resign",))[-2:], [[group], [-6]])

    def test_nobody(self):
        self.assertEqual(last(("begin", 0, 1), ("resign",)), [-6])
        self.assertEqual(last(*hall([3]), ("resign",)), [-6])


# Before each of these calls comes what it needs.
MADE = hall([6, 5, 4], rule=1, offices=2, places=[1, 2, 3], worth=[[1, 2], [3, 4], [5, 6]])
CHANGES = (
    (MADE, ("party", 9, 8, 7, 2, 3, [4, 5])),
    (MADE, ("seats", 0, 7)),
    (MADE, ("wants", 0, 7, 8)),
    (MADE, ("cares", 0, 4, 5)),
    (MADE, ("worth", 0, [7, 8])),
    (MADE, ("like", 0, 1)),
    (MADE, ("hate", 0, 1)),
    (MADE + [("like", 0, 1), ("hate", 0, 1)], ("forget", 0, 1)),
    (MADE, ("form", 3)),
    (MADE + [("form", 7)], ("leaves", 0)),
    (MADE + [("form", 3)], ("leaves", 0)),
    (MADE + [("form", 3)], ("resign",)),
    (MADE + [("form", 3)], ("seats", 2, 100)),
    (MADE + [("form", 3)], ("seats", 0, 6)),
    (MADE + [("form", 3)], ("hate", 0, 1)),
    (MADE + [("like", 2, 0), ("form", 1)], ("forget", 2, 0)),
)


class BackAndAgain(unittest.TestCase):
    def test_each_change_there_and_back(self):
        for before, call in CHANGES:
            with self.subTest(call=call, before=before[4:]):
                kept = len(before) - 1
                self.assertGreaterEqual(last(*before, call)[0], 0)
                self.assertEqual(ask(*before, call, ("back",), ("again",), ("back",))[-3:], [[kept], [0], [kept]])
                plain = photo(desk_after(*before).current)
                changed = photo(desk_after(*before, call).current)
                self.assertEqual(photo(desk_after(*before, call, ("back",)).current), plain)
                self.assertEqual(photo_after(*before, call, ("back",), ("again",)), photo_after(*before, call))
                self.assertEqual(photo(desk_after(*before, call, ("back",), ("again",)).current), changed)

    def test_each_change_ends_what_could_be_done_again(self):
        for before, call in CHANGES:
            with self.subTest(call=call, before=before[4:]):
                self.assertEqual(ask(*before, ("cares", 2, 3, 3), ("back",), ("again",))[-1], [0])
                self.assertEqual(ask(*before, ("cares", 2, 3, 3), ("back",), call, ("again",))[-1], [-6])

    def test_a_change_to_what_is_so_already_is_one(self):
        for call in (("seats", 0, 6), ("wants", 0, 1, 0), ("cares", 0, 1, 1), ("worth", 0, [1, 2])):
            with self.subTest(call=call):
                self.assertEqual(ask(*MADE, call, ("back",))[-2:], [[0], [3]])

    def test_how_many_still_can_be(self):
        self.assertEqual(
            ask(*hall([3, 4]), ("like", 0, 1), ("back",), ("back",), ("back",), ("back",),
                ("again",), ("again",), ("again",), ("again",))[3:],
            [[0], [2], [1], [0], [-6], [2], [1], [0], [-6]])

    def test_the_seventeenth_change(self):
        many = hall([1]) + [("seats", 0, n) for n in range(2, 18)]
        self.assertEqual(ask(*many, *[("back",)] * 17)[18:], [[n] for n in range(15, -1, -1)] + [[-6]])
        self.assertEqual(last(*many, *[("back",)] * 17, ("vote", 1)), [1, 0, 0])
        self.assertEqual(ask(*many, *[("back",)] * 16, *[("again",)] * 17)[34:],
                         [[n] for n in range(15, -1, -1)] + [[-6]])
        self.assertEqual(last(*many, *[("back",)] * 16, *[("again",)] * 17, ("vote", 1)), [17, 0, 0])

    def test_just_sixteen(self):
        many = hall([1]) + [("seats", 0, n) for n in range(2, 17)]
        self.assertEqual(ask(*many, *[("back",)] * 17, ("standing",))[-3:], [[0], [-6], [0]])

    def test_far_more_than_sixteen(self):
        many = hall([1]) + [("seats", 0, 1 + n % 200) for n in range(3000)]
        self.assertEqual(ask(*many, *[("back",)] * 17)[-2:], [[0], [-6]])
        self.assertEqual(last(*many, *[("back",)] * 16, ("vote", 1)), [1 + (3000 - 17) % 200, 0, 0])

    def test_half_way_back_another_change(self):
        many = hall([1]) + [("seats", 0, n) for n in range(2, 18)] + [("back",)] * 5 + [("seats", 0, 99)]
        self.assertEqual(ask(*many, ("again",), ("back",), ("vote", 1), ("again",), ("vote", 1))[-5:],
                         [[-6], [11], [12, 0, 0], [0], [99, 0, 0]])

    def test_the_cabinet_comes_back_with_its_offices(self):
        governed = hall([6, 5], rule=1, offices=2, worth=[[1, 2], [1, 2]]) + [
            ("form", 3), ("worth", 0, [2, 1]), ("hate", 0, 1)]
        self.assertEqual(ask(*governed, ("back",), ("resign",))[-3:], [[1], [4], [3]])
        back = desk_after(*governed, ("back",)).current
        self.assertEqual((back.cabinet, back.holders), (3, [1, 0]))

    def test_a_begin_leaves_nothing(self):
        for before in (hall([3, 4]), hall([3, 4]) + [("back",)]):
            self.assertEqual(ask(*before, ("begin", 0, 1), ("back",), ("again",))[-3:], [[0], [-6], [-6]])
            self.assertEqual(ask(*before, ("begin", 3, 1), ("back",))[-2], [-22])
        self.assertEqual(ask(*hall([3, 4]), ("back",), ("begin", 0, 0), ("again",), ("begin", 0, 9), ("back",))[3:],
                         [[1], [-22], [0], [-22], [1]])
