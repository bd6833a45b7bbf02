"""[2], and in [4] when a family is refused and with which number."""

import unittest

from castslots.errors import BadFamily
from castslots.families import need_family
from tests import reference, samples

ROOT = ((), "", 0)


class Family(unittest.TestCase):
    def refused(self, family, number):
        with self.subTest(family=family), self.assertRaises(BadFamily) as caught:
            need_family(family)
        self.assertIs(type(caught.exception), BadFamily)
        self.assertEqual(caught.exception.number, number, family)

    def taken(self, family):
        with self.subTest(family=family):
            self.assertIsNone(need_family(family))


class Counts(Family):
    def test_one_to_seven_kinds(self):
        for count in range(1, 8):
            self.taken((ROOT,) * count)

    def test_none_and_more_than_seven(self):
        self.refused((), 0)
        self.refused((ROOT,) * 8, 7)
        self.refused((ROOT,) * 12, 7)

    def test_more_than_seven_is_ahead_of_bad_kinds(self):
        self.refused((((), "ba", 9),) + (ROOT,) * 7, 7)
        self.refused((((), "ba", 9),) * 8, 7)


class Elders(Family):
    def test_good_ones(self):
        self.taken((ROOT, (((0, 0),), "", 0)))
        self.taken((ROOT, (((0, 1),), "", 0)))
        self.taken((ROOT, ROOT, (((1, 0), (0, 1)), "", 0)))
        self.taken((ROOT, ROOT, ROOT, (((2, 0), (0, 1), (1, 0)), "", 0)))

    def test_not_of_a_lesser_number(self):
        self.refused(((((0, 0),), "", 0),), 0)
        self.refused((ROOT, (((1, 0),), "", 0)), 1)
        self.refused((ROOT, (((1, 1),), "", 0)), 1)
        self.refused((ROOT, (((2, 0),), "", 0), ROOT), 1)
        self.refused((ROOT, (((-1, 0),), "", 0)), 1)
        self.refused((ROOT, ROOT, (((0, 0), (-2, 1)), "", 0)), 2)
        self.refused((ROOT, ROOT, (((9, 0),), "", 0)), 2)

    def test_told_twice(self):
        self.refused((ROOT, (((0, 0), (0, 0)), "", 0)), 1)
        self.refused((ROOT, (((0, 1), (0, 1)), "", 0)), 1)
        self.refused((ROOT, (((0, 0), (0, 1)), "", 0)), 1)
        self.refused((ROOT, ROOT, (((0, 0), (1, 0), (0, 1)), "", 0)), 2)

    def test_more_than_three(self):
        four = ((0, 0), (1, 0), (2, 0), (3, 0))
        self.refused((ROOT,) * 4 + ((four, "", 0),), 4)
        self.refused((ROOT,) * 4 + ((tuple((elder, 1) for elder in range(4)), "", 0),), 4)
        self.taken((ROOT,) * 4 + ((four[1:], "", 0),))

    def test_shared_by_another_number(self):
        for shared in (-1, 2, 3, 10):
            self.refused((ROOT, (((0, shared),), "", 0)), 1)

    def test_true_and_false_are_no_numbers(self):
        self.refused((ROOT, (((False, 0),), "", 0)), 1)
        self.refused((ROOT, (((0, True),), "", 0)), 1)
        self.refused((((), "", True),), 0)


class Deeds(Family):
    def test_good_ones(self):
        for deeds in ("", "a", "f", "bd", "af", "abcdef"):
            self.taken((((), deeds, 0),))

    def test_falling_twice_or_other_signs(self):
        for deeds in ("ba", "acb", "aa", "abb", "abcdeff", "g", "ag", "A", "aB", " ", "a b", "a,b", "0", "-", "ab\n"):
            self.refused((((), deeds, 0),), 0)


class Cells(Family):
    def test_from_0_to_3(self):
        for cells in range(4):
            self.taken((((), "", cells),))

    def test_below_and_above(self):
        for cells in (-2, -1, 4, 5, 100):
            self.refused((((), "", cells),), 0)
            self.refused((ROOT, ((), "", cells)), 1)


class PartCounts(Family):
    def test_sixteen_and_more(self):
        self.taken(samples.SIXTEEN)
        self.refused(samples.SIXTEEN + ((((5, 0),), "", 0),), 6)
        self.refused(samples.SIXTEEN + ((((5, 1),), "", 0),), 6)
        self.refused(samples.SIXTEEN + ((((5, 0), (3, 0), (2, 0)), "", 0),), 6)
        self.taken(samples.SIXTEEN + (ROOT,))

    def test_sixteen_with_a_shared_one_along_several_roads(self):
        line = [ROOT] + [(((below, 1),), "", 0) for below in range(6)]
        self.taken(tuple(line))
        wide = (
            ROOT,
            (((0, 1),), "", 0),
            (((1, 0), (0, 1)), "", 0),
            (((2, 0), (1, 0), (0, 1)), "", 0),
            (((3, 0), (2, 0), (1, 0)), "", 0),
            (((4, 0), (2, 0), (3, 0)), "", 0),
        )
        self.assertEqual([len(reference.parts(wide, kind)) for kind in range(6)], [1, 2, 3, 5, 9, 16])
        self.taken(wide)
        self.refused(wide + ((((5, 0),), "", 0),), 6)

    def test_no_kind_behind_too_many_parts_is_needed(self):
        self.refused(samples.SIXTEEN + ((((5, 0),), "ba", 0),), 6)


class Doers(Family):
    def test_no_part_has_all_others_inside(self):
        self.refused((((), "a", 0), ((), "a", 0), (((0, 0), (1, 0)), "", 0)), 2)
        self.refused((((), "a", 0), ((), "a", 0), (((0, 1), (1, 1)), "", 0)), 2)
        self.refused((((), "ab", 0), ((), "bc", 0), (((0, 0), (1, 1)), "ac", 0)), 2)

    def test_the_kind_itself_mends_it(self):
        self.taken((((), "a", 0), ((), "a", 0), (((0, 0), (1, 0)), "a", 0)))
        self.taken((((), "ab", 0), ((), "bc", 0), (((0, 0), (1, 1)), "b", 0)))

    def test_the_same_plain_elder_along_two_roads(self):
        self.taken(samples.TWICE)
        self.refused(samples.TWICE[:3] + ((((1, 0), (2, 0)), "", 0),), 3)

    def test_a_shared_elder_along_two_roads(self):
        self.taken(samples.DIAMOND)
        both = (((), "a", 0), (((0, 1),), "a", 0), (((0, 1),), "a", 0), (((1, 0), (2, 0)), "", 0))
        self.refused(both, 3)
        self.taken(both[:3] + ((((1, 0), (2, 0)), "a", 0),))
        self.taken((both[0], both[1], (((0, 1),), "", 0), both[3]))
        self.refused((both[0], both[1], (((0, 0),), "", 0), both[3]), 3)

    def test_kinds_behind_the_bad_one_may_mend_nothing(self):
        self.refused((((), "a", 0), ((), "a", 0), (((0, 0), (1, 0)), "", 0), (((2, 0),), "a", 0)), 2)


class FirstBad(Family):
    def test_the_first_of_several(self):
        self.refused((((), "ba", 0), ((), "", 4)), 0)
        self.refused((ROOT, ((), "", 4), (((0, 0), (0, 0)), "", 0), ((), "x", 0)), 1)
        unsound = (((), "a", 0), ((), "a", 0), (((0, 0), (1, 0)), "", 0))
        self.refused(unsound + (((), "x", 0),), 2)
        self.refused((((), "a", 0), ((), "aa", 0), (((0, 0), (1, 0)), "", 0)), 1)
        self.refused(samples.SIXTEEN[:5] + (((), "", 7), (((3, 0), (2, 0), (4, 0)), "", 0)), 5)

    def test_many_small_families(self):
        seen = set()
        for family in samples.small_families():
            number = reference.first_bad(family)
            seen.add(number)
            if number is None:
                self.assertIsNone(need_family(family), family)
                continue
            with self.assertRaises(BadFamily, msg=family) as caught:
                need_family(family)
            self.assertEqual(caught.exception.number, number, family)
        self.assertEqual(seen, {None, 2, 3})


if __name__ == "__main__":
    unittest.main()
