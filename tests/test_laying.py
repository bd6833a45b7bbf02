"""[5] and [6]: laid, own_cells, moved and step."""

import unittest

from castslots.errors import BadFamily, NoElder, NoKind, NoPart
from castslots.laying import laid, moved, own_cells, step
from tests import reference, samples

BAD = (((), "ba", 0),)


class Laid(unittest.TestCase):
    def test_without_elders(self):
        for cells in range(4):
            self.assertEqual(laid((((), "", cells),), 0), (1 + cells, [((0,), 0)]))

    def test_only_a_shared_elder_leaves_a_head(self):
        self.assertEqual(laid(samples.DIAMOND, 1), (4, [((1,), 0), ((0,), 2)]))

    def test_a_shared_elder_stands_behind_the_body_once(self):
        self.assertEqual(laid(samples.DIAMOND, 3), (8, [((3,), 0), ((3, 1), 0), ((0,), 6), ((3, 2), 2)]))

    def test_the_same_plain_elder_along_two_roads(self):
        begins = [((3,), 0), ((3, 1), 0), ((3, 1, 0), 0), ((3, 2), 3), ((3, 2, 0), 3)]
        self.assertEqual(laid(samples.TWICE, 3), (7, begins))

    def test_shared_elders_of_a_shared_elder(self):
        self.assertEqual(laid(samples.NESTED, 2), (7, [((2,), 0), ((1,), 2), ((0,), 3)]))
        self.assertEqual(laid(samples.NESTED, 3), (9, [((3,), 0), ((0,), 4), ((1,), 8), ((3, 2), 0)]))

    def test_three_elders_one_shared(self):
        family = (((), "", 1), ((), "", 2), ((), "", 3), (((2, 0), (0, 1), (1, 0)), "", 2))
        self.assertEqual(laid(family, 3), (11, [((3,), 0), ((3, 2), 0), ((0,), 9), ((3, 1), 4)]))

    def test_plain_elders_of_a_shared_elder(self):
        family = (((), "", 1), ((), "", 0), (((0, 0), (1, 0)), "", 1), (((2, 1),), "", 3))
        self.assertEqual(laid(family, 3), (8, [((3,), 0), ((2,), 4), ((2, 0), 4), ((2, 1), 6)]))

    def test_sixteen_parts(self):
        size, begins = laid(samples.SIXTEEN, 5)
        self.assertEqual(size, 7)
        self.assertEqual([slot for part, slot in begins], [0, 0, 0, 0, 0, 1, 2, 2, 3, 4, 4, 4, 5, 6, 6, 6])

    def test_refusals(self):
        for kind in (-1, 4, 7, True):
            with self.subTest(kind=kind), self.assertRaises(NoKind):
                laid(samples.DIAMOND, kind)
        with self.assertRaises(BadFamily):
            laid(BAD, 9)

    def test_what_is_told_may_be_changed(self):
        told = laid(samples.DIAMOND, 3)
        self.assertIs(type(told), tuple)
        self.assertIs(type(told[1]), list)
        told[1].reverse()
        told[1].pop()
        self.assertEqual(laid(samples.DIAMOND, 3), (8, [((3,), 0), ((3, 1), 0), ((0,), 6), ((3, 2), 2)]))


class OwnCells(unittest.TestCase):
    def test_behind_the_head(self):
        for cells in range(4):
            self.assertEqual(own_cells((((), "", cells),), 0, (0,)), list(range(1, 1 + cells)))

    def test_behind_the_plain_elders(self):
        told = [own_cells(samples.DIAMOND, 3, part) for part in [(3,), (3, 1), (0,), (3, 2)]]
        self.assertEqual(told, [[5], [1], [7], [3, 4]])
        told = [own_cells(samples.TWICE, 3, part) for part in [(3,), (3, 1), (3, 1, 0), (3, 2), (3, 2, 0)]]
        self.assertEqual(told, [[], [], [1, 2], [6], [4, 5]])

    def test_refusals(self):
        for part in [(), (2,), (3, 0), (3, 1, 0), (4,), (-1,)]:
            with self.subTest(part=part), self.assertRaises(NoPart):
                own_cells(samples.DIAMOND, 3, part)
        with self.assertRaises(NoKind):
            own_cells(samples.DIAMOND, 4, (4,))
        with self.assertRaises(NoKind):
            own_cells(samples.DIAMOND, -1, (3,))
        with self.assertRaises(BadFamily):
            own_cells(BAD, 9, (9,))

    def test_told_lists_may_be_changed(self):
        told = own_cells(samples.DIAMOND, 3, (3, 2))
        self.assertIs(type(told), list)
        told.append(9)
        self.assertEqual(own_cells(samples.DIAMOND, 3, (3, 2)), [3, 4])


class Moved(unittest.TestCase):
    def test_a_plain_elder(self):
        self.assertEqual(moved(samples.DIAMOND, 3, (3,), 1), 0)
        self.assertEqual(moved(samples.DIAMOND, 3, (3,), 2), 2)
        self.assertEqual(moved(samples.TWICE, 3, (3, 2), 0), 0)

    def test_a_shared_elder_is_unlike_in_each_thing(self):
        self.assertEqual(moved(samples.DIAMOND, 1, (1,), 0), 2)
        self.assertEqual(moved(samples.DIAMOND, 3, (3, 1), 0), 6)
        self.assertEqual(moved(samples.DIAMOND, 2, (2,), 0), 3)
        self.assertEqual(moved(samples.DIAMOND, 3, (3, 2), 0), 4)

    def test_a_shared_elder_may_stand_ahead(self):
        self.assertEqual(moved(samples.NESTED, 2, (1,), 0), 1)
        self.assertEqual(moved(samples.NESTED, 3, (1,), 0), -4)
        self.assertEqual(moved(samples.NESTED, 3, (3, 2), 1), 8)

    def test_refusals(self):
        for part, elder in [((3,), 0), ((3,), 3), ((3,), 4), ((3,), -1), ((0,), 0), ((3, 1), 1), ((3,), True)]:
            with self.subTest(part=part, elder=elder), self.assertRaises(NoElder):
                moved(samples.DIAMOND, 3, part, elder)

    def test_what_is_handed_in_first_is_refused_first(self):
        with self.assertRaises(NoPart):
            moved(samples.DIAMOND, 3, (3, 0), 9)
        with self.assertRaises(NoPart):
            moved(samples.DIAMOND, 3, (), 1)
        with self.assertRaises(NoKind):
            moved(samples.DIAMOND, 4, (3, 0), 9)
        with self.assertRaises(NoKind):
            moved(samples.DIAMOND, -1, (3,), 1)
        with self.assertRaises(BadFamily):
            moved(BAD, 9, (3, 0), 9)


class Step(unittest.TestCase):
    def test_behind_the_earlier_plain_elders(self):
        self.assertEqual(step(samples.DIAMOND, 3, 1), 0)
        self.assertEqual(step(samples.DIAMOND, 3, 2), 2)
        self.assertEqual(step(samples.NESTED, 3, 2), 0)
        family = (((), "", 1), ((), "", 2), ((), "", 3), (((2, 0), (0, 0), (1, 0)), "", 2))
        self.assertEqual([step(family, 3, elder) for elder in (2, 0, 1)], [0, 4, 6])

    def test_refusals(self):
        shared_or_none = [(1, 0), (0, 0), (3, 0), (3, 3), (3, -1), (3, 9), (3, True)]
        for kind, elder in shared_or_none:
            with self.subTest(kind=kind, elder=elder), self.assertRaises(NoElder):
                step(samples.DIAMOND, kind, elder)
        for kind in (-1, 4, 7):
            with self.subTest(kind=kind), self.assertRaises(NoKind):
                step(samples.DIAMOND, kind, 9)
        with self.assertRaises(BadFamily):
            step(BAD, 9, 9)


class SmallFamilies(unittest.TestCase):
    def test_as_by_slots_written_out(self):
        for family in samples.small_families():
            if reference.first_bad(family) is not None:
                continue
            size, begins = reference.laid(family, 3)
            self.assertEqual(laid(family, 3), (size, begins), family)
            slots = dict(begins)
            for part in slots:
                self.assertEqual(own_cells(family, 3, part), reference.own_cells(family, 3, part), family)
                for elder, shared in family[part[-1]][0]:
                    there = slots[reference.end_of(part, ((elder, shared),))]
                    self.assertEqual(moved(family, 3, part, elder), there - slots[part], family)
                    if not shared:
                        self.assertEqual(step(family, part[-1], elder), there - slots[part], family)


if __name__ == "__main__":
    unittest.main()
