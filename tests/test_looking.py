"""Points 3 and 9: governs, look, state."""

import unittest

from tests.helper import ask, hall, last

THREE = hall([6, 5, 4], rule=1, offices=3, worth=[[9, 8, 1], [9, 8, 1], [9, 8, 1]])


class Governs(unittest.TestCase):
    def test_who_and_who_holds_each_office(self):
        # Turns 1, 2, 1.
        self.assertEqual(last(*THREE, ("form", 6), ("governs",)), [6, 1, 2, 1, 0, 0])

    def test_five_and_one(self):
        five = hall([1, 2, 3, 4, 5], offices=5, worth=[[1, 2, 3, 4, 5]] * 5)
        # Turns 4, 3, 2, 4, 1 (2 is like 4 / 2, and comes first); the offices are taken from the last to the first.
        self.assertEqual(last(*five, ("form", 31), ("governs",)), [31, 1, 4, 2, 3, 4])
        self.assertEqual(last(*hall([6]), ("form", 1), ("governs",)), [1, 0, 0, 0, 0, 0])

    def test_nobody(self):
        self.assertEqual(last(("begin", 0, 1), ("governs",)), [-6])
        self.assertEqual(last(*THREE, ("governs",)), [-6])
        self.assertEqual(last(*THREE, ("form", 1), ("governs",)), [-6])

    def test_offices_chosen_anew(self):
        governed = THREE + [("form", 7)]
        self.assertEqual(ask(*governed, ("governs",), ("leaves", 2), ("governs",))[-3:],
                         [[7, 0, 1, 2, 0, 0], [0], [3, 0, 1, 0, 0, 0]])

    def test_by_what_is_so_when_one_leaves(self):
        governed = hall([6, 5, 4], offices=2, worth=[[9, 1]] * 3) + [
            ("form", 7), ("seats", 2, 9), ("worth", 2, [1, 9])]
        self.assertEqual(last(*governed, ("governs",)), [7, 0, 1, 0, 0, 0])
        self.assertEqual(last(*governed, ("leaves", 0), ("governs",)), [6, 1, 2, 0, 0, 0])

    def test_the_others_do_not_stand(self):
        self.assertEqual(ask(*THREE, ("form", 3), ("leaves", 0), ("governs",))[-2:], [[1], [-6]])

    def test_offices_stay_whatever_is_changed(self):
        governed = THREE + [("form", 3), ("governs",)]
        for call in (("seats", 1, 9), ("worth", 0, [0, 0, 50]), ("wants", 0, 9, 9), ("cares", 1, 5, 5), ("like", 0, 1),
                     ("hate", 0, 2)):
            with self.subTest(call=call):
                found = ask(*governed, call, ("governs",))
                self.assertEqual(found[-2:], [[0], found[-3]])

    def test_gone_by_a_hate_by_a_like_forgotten_by_seats(self):
        self.assertEqual(ask(*THREE, ("form", 3), ("hate", 0, 1), ("governs",))[-2:], [[1], [-6]])
        self.assertEqual(ask(*THREE, ("like", 1, 0), ("form", 1), ("forget", 1, 0), ("governs",))[-2:], [[1], [-6]])
        self.assertEqual(ask(*THREE, ("form", 3), ("seats", 2, 11), ("governs",))[-2:], [[1], [-6]])
        self.assertEqual(ask(*THREE, ("form", 3), ("seats", 2, 10), ("governs",))[-2:], [[0], [3, 0, 1, 0, 0, 0]])

    def test_taken_back_and_done_again(self):
        calls = [("form", 7), ("leaves", 0), ("resign",), ("back",), ("governs",), ("back",), ("governs",), ("back",),
                 ("governs",), ("again",), ("governs",), ("again",), ("governs",), ("again",), ("governs",)]
        found = ask(*THREE, *calls)[4:]
        whole, fewer, nobody = [7, 0, 1, 2, 0, 0], [6, 1, 2, 1, 0, 0], [-6]
        self.assertEqual(found[4::2], [fewer, whole, nobody, whole, fewer, nobody])


class Look(unittest.TestCase):
    def test_all_of_it(self):
        self.assertEqual(last(("begin", 0, 2), ("party", 7, 1, 2, 3, 4, [5, 6]), ("look", 0)),
                         [7, 1, 2, 3, 4, 5, 6, 0, 0, 0])

    def test_five_offices(self):
        self.assertEqual(last(("begin", 0, 5), ("party", 200, 30, 0, 5, 1, [50, 0, 49, 1, 2]), ("look", 0)),
                         [200, 30, 0, 5, 1, 50, 0, 49, 1, 2])

    def test_the_party_that_is_asked_for(self):
        found = ask(*THREE, ("look", 0), ("look", 1), ("look", 2))[4:]
        self.assertEqual([one[0] for one in found], [6, 5, 4])

    def test_after_changes(self):
        before = [("begin", 0, 1), ("party", 7, 1, 2, 3, 4, [5])]
        for call, expected in (
            (("seats", 0, 8), [8, 1, 2, 3, 4, 5, 0, 0, 0, 0]), (("wants", 0, 9, 10), [7, 9, 10, 3, 4, 5, 0, 0, 0, 0]),
            (("cares", 0, 1, 2), [7, 1, 2, 1, 2, 5, 0, 0, 0, 0]), (("worth", 0, [6]), [7, 1, 2, 3, 4, 6, 0, 0, 0, 0]),
        ):
            with self.subTest(call=call):
                found = ask(*before, call, ("look", 0), ("back",), ("look", 0), ("again",), ("look", 0))[3:]
                self.assertEqual(found[::2], [expected, [7, 1, 2, 3, 4, 5, 0, 0, 0, 0], expected])

    def test_no_such_party(self):
        self.assertEqual(ask(*THREE, ("look", 3), ("look", 31))[-2:], [[-2], [-2]])


class State(unittest.TestCase):
    def test_nobody(self):
        self.assertEqual(last(("begin", 2, 4), ("state",)), [0, 2, 4, 0, 0, 0, 0, 0])

    def test_each_number(self):
        calls = THREE + [("like", 0, 1), ("like", 1, 0), ("like", 2, 0), ("hate", 1, 2), ("form", 1), ("seats", 0, 9),
                         ("back",)]
        self.assertEqual(last(*calls, ("state",)), [3, 1, 3, 3, 1, 1, 8, 1])

    def test_a_hate_is_one(self):
        five = hall([1] * 5) + [("hate", i, j) for i in range(5) for j in range(i)]
        five += [("like", i, j) for i in range(5) for j in range(5) if i != j]
        self.assertEqual(last(*five, ("state",)), [5, 0, 1, 20, 10, 0, 16, 0])
        self.assertEqual(last(*five, ("forget", 4, 0), ("state",)), [5, 0, 1, 19, 9, 0, 16, 0])
        self.assertEqual(last(*five, ("forget", 0, 4), ("forget", 4, 0), ("state",)), [5, 0, 1, 18, 9, 0, 16, 0])

    def test_who_governs(self):
        self.assertEqual(last(*THREE, ("form", 6), ("state",))[5], 6)
        self.assertEqual(last(*THREE, ("form", 6), ("resign",), ("state",))[5], 0)
        self.assertEqual(last(*THREE, ("form", 6), ("hate", 1, 2), ("state",))[5], 0)

    def test_taken_back_and_done_again(self):
        calls = hall([1]) + [("seats", 0, n) for n in range(2, 20)]
        self.assertEqual(last(*calls, ("state",))[6:], [16, 0])
        self.assertEqual(last(*calls, *[("back",)] * 5, ("state",))[6:], [11, 5])
        self.assertEqual(last(*calls, *[("back",)] * 5, ("again",), ("state",))[6:], [12, 4])
        self.assertEqual(last(*calls, *[("back",)] * 20, ("state",))[6:], [0, 16])
        self.assertEqual(last(*calls, *[("back",)] * 5, ("seats", 0, 7), ("state",))[6:], [12, 0])
        self.assertEqual(last(*calls, *[("back",)] * 5, ("seats", 0, 0), ("state",))[6:], [11, 5])

    def test_parties_taken_back(self):
        self.assertEqual(last(*hall([3, 4]), ("like", 0, 1), ("back",), ("back",), ("state",)), [1, 0, 1, 0, 0, 0, 1, 2])

    def test_a_new_begin(self):
        self.assertEqual(last(*THREE, ("like", 0, 1), ("form", 7), ("back",), ("begin", 0, 1), ("state",)),
                         [0, 0, 1, 0, 0, 0, 0, 0])
