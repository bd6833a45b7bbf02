"""[3]: parts and inside."""

import unittest

from castslots.errors import BadFamily, NoKind, NoPart
from castslots.families import inside, need_family, parts
from tests import reference, samples

BAD = (((), "ba", 0),)


class Parts(unittest.TestCase):
    def test_without_elders(self):
        self.assertEqual(parts((((), "", 0),), 0), [(0,)])
        self.assertEqual(parts(samples.DIAMOND, 0), [(0,)])

    def test_a_shared_elder_along_two_roads(self):
        self.assertEqual(parts(samples.DIAMOND, 3), [(3,), (3, 1), (0,), (3, 2)])

    def test_the_same_plain_elder_along_two_roads(self):
        self.assertEqual(parts(samples.TWICE, 3), [(3,), (3, 1), (3, 1, 0), (3, 2), (3, 2, 0)])

    def test_the_same_elder_plain_and_shared(self):
        family = (((), "", 0), (((0, 1),), "", 0), (((0, 0), (1, 0)), "", 0))
        self.assertEqual(parts(family, 2), [(2,), (2, 0), (2, 1), (0,)])

    def test_shared_elders_of_a_shared_elder(self):
        self.assertEqual(parts(samples.NESTED, 2), [(2,), (1,), (0,)])
        self.assertEqual(parts(samples.NESTED, 3), [(3,), (0,), (1,), (3, 2)])

    def test_plain_elders_of_a_shared_elder(self):
        family = (((), "", 0), (((0, 0),), "", 0), (((1, 1),), "", 0), (((2, 0), (1, 1)), "", 0))
        self.assertEqual(parts(family, 3), [(3,), (3, 2), (1,), (1, 0)])

    def test_three_elders_in_their_order(self):
        root = ((), "", 0)
        family = (root, root, root, (((2, 0), (0, 1), (1, 0)), "", 0))
        self.assertEqual(parts(family, 3), [(3,), (3, 2), (0,), (3, 1)])

    def test_sixteen(self):
        found = parts(samples.SIXTEEN, 5)
        self.assertEqual(len(found), 16)
        self.assertEqual(found[:4], [(5,), (5, 3), (5, 3, 2), (5, 3, 2, 1)])
        self.assertEqual(found[-3:], [(5, 4), (5, 4, 1), (5, 4, 1, 0)])

    def test_seven_kinds(self):
        line = (((), "", 0),) + tuple((((below, 0),), "", 0) for below in range(6))
        self.assertEqual(parts(line, 6), [tuple(range(6, end, -1)) for end in range(5, -2, -1)])

    def test_refusals(self):
        for kind in (-1, 4, 7, 100, True):
            with self.subTest(kind=kind), self.assertRaises(NoKind):
                parts(samples.DIAMOND, kind)
        with self.assertRaises(BadFamily):
            parts(BAD, 5)
        with self.assertRaises(BadFamily) as caught:
            parts(samples.DIAMOND + (((), "", 4),), 0)
        self.assertEqual(caught.exception.number, 4)

    def test_told_lists_may_be_changed(self):
        told = parts(samples.DIAMOND, 3)
        self.assertIs(type(told), list)
        told.clear()
        self.assertEqual(parts(samples.DIAMOND, 3), [(3,), (3, 1), (0,), (3, 2)])


class Inside(unittest.TestCase):
    def test_of_the_thing_itself(self):
        for kind in range(4):
            self.assertEqual(inside(samples.DIAMOND, kind, (kind,)), parts(samples.DIAMOND, kind))

    def test_a_shared_elder_is_inside_each_that_has_it(self):
        self.assertEqual(inside(samples.DIAMOND, 3, (3, 1)), [(3, 1), (0,)])
        self.assertEqual(inside(samples.DIAMOND, 3, (3, 2)), [(3, 2), (0,)])
        self.assertEqual(inside(samples.DIAMOND, 3, (0,)), [(0,)])

    def test_a_plain_elder_is_inside_its_own_only(self):
        self.assertEqual(inside(samples.TWICE, 3, (3, 1)), [(3, 1), (3, 1, 0)])
        self.assertEqual(inside(samples.TWICE, 3, (3, 2)), [(3, 2), (3, 2, 0)])

    def test_order_is_that_of_meeting_from_the_part(self):
        self.assertEqual(inside(samples.NESTED, 3, (3,)), [(3,), (0,), (1,), (3, 2)])
        self.assertEqual(inside(samples.NESTED, 3, (3, 2)), [(3, 2), (1,), (0,)])
        self.assertEqual(inside(samples.NESTED, 3, (1,)), [(1,), (0,)])

    def test_refusals(self):
        strange = [(), (2,), (1,), (3, 0), (3, 3), (3, 1, 0), (3, 2, 0), (0, 0), (4,), (-1,), (3, -1), (1, 0)]
        for part in strange:
            with self.subTest(part=part), self.assertRaises(NoPart):
                inside(samples.DIAMOND, 3, part)
        with self.assertRaises(NoPart):
            inside(samples.DIAMOND, 1, (3, 1))
        with self.assertRaises(NoPart):
            inside(samples.DIAMOND, 3, (3, True))

    def test_what_is_handed_in_first_is_refused_first(self):
        with self.assertRaises(BadFamily):
            inside(BAD, 9, (9,))
        for kind in (-1, 4):
            with self.assertRaises(NoKind):
                inside(samples.DIAMOND, kind, (kind,))

    def test_told_lists_may_be_changed(self):
        told = inside(samples.DIAMOND, 3, (3, 2))
        self.assertIs(type(told), list)
        told.append((9,))
        self.assertEqual(inside(samples.DIAMOND, 3, (3, 2)), [(3, 2), (0,)])


class SmallFamilies(unittest.TestCase):
    def test_as_by_all_roads(self):
        for family in samples.small_families():
            if reference.first_bad(family) is None:
                need_family(family)
                self.assertEqual(parts(family, 3), reference.parts(family, 3), family)
                for part in reference.parts(family, 3):
                    self.assertEqual(inside(family, 3, part), reference.inside(family, part), family)


if __name__ == "__main__":
    unittest.main()
