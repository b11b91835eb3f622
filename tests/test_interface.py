"""How calls are written and answered; the two sentences ahead of point 1."""

import unittest

from cabinetsdesk.hall import answers
from tests.helper import LARGEST, NAMES, ask, hall, last, photo_after, written

# How each call is written, by the document: i a party, s a set, n another number, w a row.
KINDS = {
    "party": "nnnnnw", "seats": "in", "wants": "inn", "cares": "inn", "worth": "iw", "like": "ii",
    "hate": "ii", "forget": "ii", "form": "s", "leaves": "i", "vote": "s", "stands": "s", "part": "i",
    "joined": "s", "motion": "nn", "order": "s", "plain": "s", "ahead": "s", "alone": "si", "gains": "sn",
    "swaps": "sn", "beats": "iiii", "beaters": "ii", "unseaters": "ii", "fall": "ii", "deal": "s",
    "leave": "s", "on": "s", "best": "i", "look": "i",
}


def call_of(name, party=0, group=1, number=1, row=None):
    by_kind = {"i": party, "s": group, "n": number, "w": [1] if row is None else row}
    return (name,) + tuple(by_kind[kind] for kind in KINDS.get(name, ""))


class Written(unittest.TestCase):
    def test_numbers_in_and_out(self):
        calls = [0, 0, 2, 1, 10, 3, 4, 1, 1, 2, 5, 6, 9, 1, 16, 9, 1]
        self.assertEqual(answers(calls), [1, 0, 1, 0, 3, 2, 0, 0, 2, 1, 1, 1, -16])

    def test_one_call(self):
        self.assertEqual(answers([0, 2, 5]), [1, 0])
        self.assertEqual(answers([16]), [1, -61])

    def test_rows_of_any_length_are_passed_over(self):
        for length in range(21):
            with self.subTest(length=length):
                row = [7] * length
                found = ask(("begin", 0, 3), ("party", 9, 1, 1, 1, 1, [1, 2, 3]), ("worth", 0, row),
                            ("party", 1, 1, 1, 1, 1, row), ("narrowest",))
                taken = [[0], [1]] if length == 3 else [[-22], [-22]]
                self.assertEqual(found, [[0], [0]] + taken + [[0, 1, 9]])

    def test_all_answers_are_whole_numbers(self):
        calls = hall([3, 4], places=[1, 2]) + [
            ("stands", 1), ("joined", 1), ("like", 0, 1), ("form", 3), ("leaves", 0), ("middle",), ("part", 0)]
        calls += [call_of(name) for name in NAMES[14:]]
        for number in answers(written(calls)):
            self.assertIs(type(number), int)

    def test_what_is_handed_in_stays(self):
        class Watched(list):
            def refuse(self, *args):
                raise AssertionError("the list was changed")
            append = extend = insert = pop = remove = clear = sort = reverse = refuse
            __setitem__ = __delitem__ = __iadd__ = __imul__ = refuse

        numbers = written(hall([3, 4, 5], offices=2, places=[1, 2, 3]) + [
            ("form", 7), ("worth", 0, [3, 4]), ("leaves", 1), ("back",), ("again",)] + [
            call_of(name) for name in NAMES[14:]])
        before = list(numbers)
        first = answers(numbers)
        self.assertEqual(numbers, before)
        self.assertEqual(answers(Watched(numbers)), first)

    def test_nothing_is_kept_from_one_time_to_the_next(self):
        numbers = written(hall([3, 4, 5]) + [("hate", 0, 1), ("form", 4), ("standing",), ("resign",), ("back",)] + [
            call_of(name) for name in NAMES[14:]])
        first = answers(numbers)
        self.assertEqual(answers(numbers), first)
        self.assertEqual(ask(("standing",)), [[-61]])
        self.assertEqual(answers(numbers), first)

    def test_what_is_given_back_is_the_askers_own(self):
        numbers = written(hall([3, 4, 5]) + [("standing",)])
        first = answers(numbers)
        kept = list(first)
        first.clear()
        self.assertEqual(answers(numbers), kept)

    def test_five_thousand_calls(self):
        found = ask(*(hall([3]) + [("tight",)] * 4998))
        self.assertEqual(found[2:], [[1, 1]] * 4998)

    def test_five_thousand_of_the_longer_ones(self):
        five = hall([5, 4, 4, 3, 3], offices=5, places=[3, 9, 1, 20, 15], worth=[[5, 4, 3, 2, 1]] * 5)
        asked = [("ahead", 31), ("holding",), ("stable",), ("calm",), ("swaps", 31, 1), ("on", 1)]
        found = ask(*five, *(asked * 832))
        self.assertEqual(found[6:], found[6:12] * 832)


class BeforeTheBegin(unittest.TestCase):
    def test_all_but_begin_are_refused(self):
        for name in NAMES[1:]:
            with self.subTest(name=name):
                wrong = call_of(name, party=LARGEST, group=0, number=LARGEST, row=[])
                self.assertEqual(ask(call_of(name), wrong), [[-61], [-61]])

    def test_a_refused_begin_is_none(self):
        self.assertEqual(ask(("begin", 3, 1), ("standing",), ("begin", 0, 6), ("back",), ("begin", 0, 1), ("back",)),
                         [[-22], [-61], [-22], [-61], [0], [-6]])

    def test_a_refused_begin_leaves_the_hall(self):
        self.assertEqual(ask(*hall([3]), ("begin", 3, 1), ("standing",), ("back",)),
                         [[0], [0], [-22], [1, 1], [0]])


class NoSuchParty(unittest.TestCase):
    def test_parties_that_are_none(self):
        for name in [name for name in KINDS if "i" in KINDS[name]]:
            for party in (2, 5, 31, 32, LARGEST):
                with self.subTest(name=name, party=party):
                    wrong = call_of(name, party=party, number=LARGEST, row=[])
                    self.assertEqual(last(*hall([3, 4]), wrong), [-2])

    def test_either_party_of_two(self):
        for name in ("like", "hate", "forget"):
            with self.subTest(name=name):
                self.assertEqual(ask(*hall([3, 4]), (name, 0, 2), (name, 2, 0), (name, 2, 2))[3:], [[-2]] * 3)

    def test_sets_with_somebody_who_is_none_or_with_nobody(self):
        for name in [name for name in KINDS if "s" in KINDS[name]]:
            for group in (0, 4, 5, 7, 8, 32, LARGEST):
                with self.subTest(name=name, group=group):
                    self.assertEqual(last(*hall([3, 4]), call_of(name, group=group, number=LARGEST)), [-2])

    def test_no_parties_at_all(self):
        for name in [name for name in KINDS if "s" in KINDS[name] or "i" in KINDS[name]]:
            with self.subTest(name=name):
                self.assertEqual(last(("begin", 0, 1), call_of(name)), [-2])

    def test_the_full_hall_knows_its_five(self):
        five = hall([1, 2, 3, 4, 5])
        self.assertEqual(ask(*five, ("stands", 31), ("stands", 32), ("part", 4), ("part", 5))[6:],
                         [[1], [-2], [16, 31], [-2]])

    def test_it_comes_first(self):
        governed = hall([3, 4]) + [("form", 2)]
        self.assertEqual(last(*governed, ("form", 4)), [-2])
        self.assertEqual(last(*governed, ("form", 0)), [-2])
        self.assertEqual(last(*governed, ("leaves", 2)), [-2])
        self.assertEqual(last(*governed, ("seats", 2, 0)), [-2])
        self.assertEqual(last(*governed, ("worth", 2, [])), [-2])

    def test_a_party_taken_back_is_none(self):
        self.assertEqual(ask(*hall([3, 4]), ("part", 1), ("back",), ("part", 1), ("stands", 2), ("again",), ("part", 1)),
                         [[0], [0], [1], [2, 3], [1], [-2], [-2], [0], [2, 3]])


class Refused(unittest.TestCase):
    """A refusal is its number alone, and the object is as it was."""

    # A hall with something to take back, something to do again, and one who governs.
    GOVERNED = hall([6, 3, 4], rule=1, offices=2, worth=[[1, 2], [3, 4], [5, 6]]) + [
        ("like", 1, 0), ("hate", 1, 2), ("form", 5), ("cares", 0, 2, 2), ("back",)]
    # One with five, two who hate each other, and nobody who governs.
    FULL = hall([6, 3, 4, 1, 1], rule=1) + [("hate", 0, 1), ("like", 2, 3), ("wants", 0, 3, 3), ("back",)]

    def check(self, before, call, number):
        with self.subTest(call=call):
            self.assertEqual(last(*before, call), [number])
            self.assertEqual(photo_after(*before, call), photo_after(*before))

    def test_where_one_governs(self):
        for call, number in (
            (("begin", 3, 1), -22), (("begin", 0, 0), -22),
            (("party", 1, 1, 1, 1, 1, [1]), -22), (("party", 1, 1, 1, 1, 1, [1, 1]), -16),
            (("seats", 0, 0), -22), (("seats", 3, 1), -2), (("wants", 0, 31, 0), -22), (("wants", 0, 0, 31), -22),
            (("cares", 0, 0, 1), -22), (("cares", 0, 1, 6), -22), (("worth", 0, [1]), -22),
            (("worth", 0, [1, 51]), -22), (("like", 1, 1), -22), (("like", 1, 0), -17), (("hate", 2, 2), -22),
            (("hate", 2, 1), -17), (("forget", 0, 1), -6), (("form", 1), -16), (("form", 8), -2),
            (("leaves", 1), -6), (("leaves", 7), -2), (("vote", 0), -2), (("stands", 9), -2), (("part", 3), -2),
            (("joined", 16), -2), (("motion", 31, 0), -22), (("motion", 0, 31), -22), (("order", 8), -2),
            (("plain", 0), -2), (("ahead", 8), -2), (("alone", 8, 0), -2), (("alone", 3, 3), -2), (("alone", 3, 2), -6),
            (("alone", 8, 3), -2), (("gains", 8, 2), -2), (("gains", 3, 2), -22), (("swaps", 8, 2), -2),
            (("swaps", 3, 2), -22), (("beats", 0, 0, 0, 3), -2), (("beats", 3, 0, 0, 0), -2), (("beaters", 0, 3), -2),
            (("unseaters", 3, 0), -2), (("fall", 3, 3), -2), (("deal", 8), -2), (("leave", 0), -2), (("on", 9), -2),
            (("best", 3), -2), (("best", 31), -2), (("look", 3), -2),
        ):
            self.check(self.GOVERNED, call, number)

    def test_where_nobody_governs(self):
        for call, number in (
            (("party", 1, 1, 1, 1, 1, [1]), -28), (("form", 3), -33), (("form", 8), -33), (("leaves", 0), -6),
            (("resign",), -6), (("like", 2, 3), -17), (("forget", 3, 2), -6), (("governs",), -6),
        ):
            self.check(self.FULL, call, number)
        # Party 2 could govern only with one that it hates.
        self.check(self.FULL + [("seats", 0, 20), ("hate", 0, 2)], ("best", 2), -33)

    def test_where_there_is_nothing(self):
        empty = [("begin", 0, 1)]
        for name, number in (("back", -6), ("again", -6), ("resign", -6), ("fewest", -33), ("smallest", -33),
                             ("narrowest", -33), ("governs", -6)):
            self.check(empty, (name,), number)
        self.check(hall([3]), ("again",), -6)

    # The calls 14 to 49 with numbers that are taken, and some that are not.
    QUESTIONS = [call_of(name) for name in NAMES[14:]] + [call_of(name, group=5, party=2) for name in NAMES[14:]]
    QUESTIONS += [call_of(name, party=3, group=8, number=31) for name in NAMES[14:]]

    def test_questions_change_nothing(self):
        for before in (self.GOVERNED, self.FULL):
            for call in self.QUESTIONS:
                with self.subTest(call=call):
                    self.assertEqual(photo_after(*before, call), photo_after(*before))

    def test_all_looks_the_same_behind_them(self):
        for before in (self.GOVERNED, self.FULL):
            told = [("state",), ("governs",), ("look", 0), ("look", 1), ("look", 2)]
            plainly = ask(*before, *told, ("again",), *told, ("back",), ("back",), *told)[len(before):]
            asked = before + self.QUESTIONS
            found = ask(*asked, *told, ("again",), *told, ("back",), ("back",), *told)[len(asked):]
            self.assertEqual(found, plainly)
            for call in self.QUESTIONS:
                with self.subTest(call=call):
                    self.assertEqual(ask(*before, *told, call, *told)[-5:], plainly[:5])

    def test_what_can_be_done_again_outlives_a_refusal(self):
        self.assertEqual(ask(*self.GOVERNED, ("seats", 0, 0), ("form", 1), ("leaves", 1), ("again",))[-4:],
                         [[-22], [-16], [-6], [0]])
