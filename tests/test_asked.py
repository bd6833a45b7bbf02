"""[7] numbers and what may be asked; [10] the fewest numbers, and reason."""

import unittest

from castslots.changes import unlike
from castslots.errors import BadAsked, BadFamily, NoKind
from castslots.tables import call, led, numbers, reason, tables
from tests import reference, samples

BAD = (((), "ba", 0),)
MANY = [(4, "a"), (0, "a"), (3, "d"), (4, "e"), (1, "b"), (4, "c"), (2, "c"), (3, "c"), (3, "a")]
FIVE = [[("a", 0)], [("a", 0), ("b", 1)], [("c", 2)]]
FIVE.append(FIVE[1] + [("c", 3), ("d", 3)])
FIVE.append(FIVE[3] + [("e", 4)])


class Numbers(unittest.TestCase):
    def test_nothing_asked(self):
        self.assertEqual(numbers(samples.DIAMOND, []), [[], [], [], []])
        self.assertEqual(numbers((((), "", 0),), []), [[]])

    def test_one_deed(self):
        self.assertEqual(numbers((((), "abc", 0),), [(0, "b")]), [[("b", 0)]])

    def test_letters_rise_in_whatever_order_they_are_asked(self):
        family = (((), "abcdef", 0),)
        self.assertEqual(numbers(family, [(0, deed) for deed in "fbdace"]), [[(deed, 0) for deed in "abcdef"]])

    def test_the_same_pair_twice_counts_once(self):
        self.assertEqual(numbers((((), "ab", 0),), [(0, "b"), (0, "a"), (0, "b")]), [[("a", 0), ("b", 0)]])

    def test_the_first_plain_elders_numbers_stand_ahead(self):
        family = (((), "bf", 0), (((0, 0),), "a", 0))
        self.assertEqual(numbers(family, [(1, "a"), (0, "f"), (1, "b")]), [[("f", 0)], [("f", 0), ("a", 1), ("b", 1)]])

    def test_a_deed_of_a_kind_and_of_its_first_plain_elder(self):
        family = (((), "a", 0), (((0, 0),), "a", 0), (((1, 0),), "a", 0))
        self.assertEqual(numbers(family, [(1, "a"), (0, "a")]), [[("a", 0)], [("a", 0)], [("a", 0)]])
        self.assertEqual(numbers(family, [(2, "a"), (1, "a")]), [[], [("a", 1)], [("a", 1)]])

    def test_of_other_elders_nothing_is_taken(self):
        family = (((), "a", 0), ((), "b", 0), (((0, 0), (1, 0)), "", 0), (((0, 1), (1, 1)), "", 0))
        self.assertEqual(numbers(family, [(0, "a"), (1, "b"), (2, "b")])[2], [("a", 0), ("b", 2)])
        self.assertEqual(numbers(family, [(0, "a"), (1, "b"), (3, "b")])[3], [("b", 3)])

    def test_a_shared_elder_ahead_of_the_first_plain_one(self):
        family = (((), "a", 0), ((), "b", 0), (((0, 1), (1, 0)), "", 0))
        self.assertEqual(numbers(family, [(0, "a"), (1, "b"), (2, "a")])[2], [("b", 1), ("a", 2)])

    def test_a_deed_is_asked_of_a_kind_that_does_not_do_it_itself(self):
        self.assertEqual(numbers(samples.NESTED, [(3, "f"), (2, "e")]), [[], [], [("e", 2)], [("e", 2), ("f", 3)]])

    def test_by_hand(self):
        asked = [(0, "a"), (3, "a"), (1, "b"), (3, "c"), (3, "d"), (2, "a")]
        told = [[("a", 0)], [("b", 1)], [("a", 2)], [("b", 1), ("a", 3), ("c", 3), ("d", 3)]]
        self.assertEqual(numbers(samples.DIAMOND, asked), told)
        self.assertEqual(numbers(samples.CHAIN, MANY), FIVE)

    def test_order_and_repeats_change_nothing(self):
        for asked in (MANY[::-1], MANY[4:] + MANY[:4], MANY * 6, sorted(MANY + MANY[::3])):
            self.assertEqual(numbers(samples.CHAIN, asked), FIVE)

    def test_small_families(self):
        for family, asked in samples.sound_families():
            self.assertEqual(numbers(family, asked), reference.numbers(family, asked), (family, asked))


class Asked(unittest.TestCase):
    family = (((), "abc", 0), (((0, 0),), "d", 0))

    def refused(self, asked, number):
        questions = (
            lambda: numbers(self.family, asked),
            lambda: tables(self.family, asked, 9),
            lambda: call(self.family, asked, 9, (9,), "a"),
            lambda: led(self.family, asked, 9, (9,), 9),
            lambda: reason(self.family, asked, 9, "a"),
            lambda: unlike(self.family, self.family, asked),
        )
        for at, question in enumerate(questions):
            with self.subTest(asked=asked, at=at), self.assertRaises(BadAsked) as caught:
                question()
            self.assertIs(type(caught.exception), BadAsked)
            self.assertEqual(caught.exception.number, number, (asked, at))

    def test_no_such_kind(self):
        for kind in (-1, -2, 2, 7, 100, True):
            self.refused([(kind, "a")], 0)

    def test_a_deed_that_the_kind_does_not_know(self):
        for pair in [(0, "d"), (0, "e"), (1, "e"), (1, "f")]:
            self.refused([pair], 0)

    def test_no_letter(self):
        for deed in ("", "g", "A", " ", "-", "0", "ab", "bc", "abc", "aa", "a ", 0, 1, None, ("a",)):
            self.refused([(0, deed)], 0)
            self.refused([(1, deed)], 0)

    def test_no_pair(self):
        for pair in [(), (0,), (0, "a", "b"), ("a", 0), "0a", 0, None]:
            self.refused([pair], 0)

    def test_the_first_bad_pair_at_each_place(self):
        good = [(0, "a"), (1, "b"), (1, "d"), (0, "c"), (1, "a")]
        self.assertEqual(numbers(self.family, good)[1], [("a", 0), ("c", 0), ("b", 1), ("d", 1)])
        for bad in [(-1, "a"), (2, "a"), (0, "d"), (0, "ab"), (0, "g")]:
            for at in range(len(good) + 1):
                self.refused(good[:at] + [bad] + good[at:], at)
                self.refused(good[:at] + [bad] + good[at:] + [(9, "z")], at)

    def test_sixty_and_more(self):
        sixty = [(0, "abc"[turn % 3]) for turn in range(60)]
        self.assertEqual(numbers(self.family, sixty)[0], [("a", 0), ("b", 0), ("c", 0)])
        self.refused(sixty[:59] + [(0, "d")], 59)
        self.refused(sixty + [(0, "a")], 60)
        self.refused([(0, "a")] * 61, 60)
        self.refused([(0, "a")] * 200, 60)

    def test_more_than_sixty_is_ahead_of_bad_pairs(self):
        self.refused([(9, "z")] * 61, 60)
        self.refused([(0, "d")] + [(0, "a")] * 60, 60)
        self.refused([(0, "d")] + [(0, "a")] * 59, 0)


class Reason(unittest.TestCase):
    def test_by_the_kind_itself(self):
        self.assertEqual(reason(samples.CHAIN, MANY, 0, "a"), [0])
        self.assertEqual(reason(samples.CHAIN, MANY, 3, "c"), [3])
        self.assertEqual(reason(samples.CHAIN, MANY, 4, "e"), [4])

    def test_by_its_first_plain_elder(self):
        self.assertEqual(reason(samples.CHAIN, MANY, 1, "a"), [1, 0])
        self.assertEqual(reason(samples.CHAIN, MANY, 3, "b"), [3, 1])
        self.assertEqual(reason(samples.CHAIN, MANY, 4, "c"), [4, 3])

    def test_by_that_ones_and_so_on(self):
        self.assertEqual(reason(samples.CHAIN, MANY, 3, "a"), [3, 1, 0])
        self.assertEqual(reason(samples.CHAIN, MANY, 4, "b"), [4, 3, 1])
        self.assertEqual(reason(samples.CHAIN, MANY, 4, "a"), [4, 3, 1, 0])
        line = (((), "a", 0),) + tuple((((below, 0),), "", 0) for below in range(6))
        self.assertEqual(reason(line, [(0, "a"), (6, "a")], 6, "a"), [6, 5, 4, 3, 2, 1, 0])

    def test_none_of_the_numbers(self):
        self.assertIsNone(reason(samples.CHAIN, MANY, 0, "b"))
        self.assertIsNone(reason(samples.CHAIN, MANY, 1, "c"))
        self.assertIsNone(reason(samples.CHAIN, [], 4, "a"))
        self.assertIsNone(reason(samples.CHAIN, [(4, "a")], 3, "a"))
        self.assertIsNone(reason(samples.CHAIN, [(2, "c")], 4, "c"))
        self.assertIsNone(reason(samples.CHAIN, [(2, "c")], 3, "c"))
        self.assertIsNone(reason(samples.CHAIN, MANY, 4, "f"))

    def test_refusals(self):
        for kind in (-1, 5, 7, True):
            with self.subTest(kind=kind), self.assertRaises(NoKind):
                reason(samples.CHAIN, MANY, kind, "a")
        with self.assertRaises(BadFamily):
            reason(BAD, [(9, "z")], 9, "a")

    def test_told_lists_may_be_changed(self):
        told = reason(samples.CHAIN, MANY, 4, "a")
        self.assertIs(type(told), list)
        told.reverse()
        self.assertEqual(reason(samples.CHAIN, MANY, 4, "a"), [4, 3, 1, 0])


class FewestNumbers(unittest.TestCase):
    def test_each_number_is_asked_of_a_kind_as_which_the_thing_is_held_in_the_same_slot(self):
        for family, asked in samples.sound_families():
            told = numbers(family, asked)
            for kind in range(4):
                road = reference.chain(family, kind)
                needed = {deed for held, deed in asked if held in road}
                self.assertEqual(sorted(deed for deed, asker in told[kind]), sorted(needed), (family, asked))
                for deed, asker in told[kind]:
                    self.assertIn((asker, deed), asked)
                    walked = road[:road.index(asker) + 1]
                    self.assertEqual(reason(family, asked, kind, deed), walked, (family, asked))
                for deed in set("abcdef") - needed:
                    self.assertIsNone(reason(family, asked, kind, deed), (family, asked))


if __name__ == "__main__":
    unittest.main()
