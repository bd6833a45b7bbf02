"""[8] and [9]: tables, call and led."""

import unittest

from castslots.errors import BadAsked, BadFamily, NoElder, NoKind, NoPart, NotAsked
from castslots.families import doer
from castslots.laying import laid
from castslots.tables import call, led, numbers, tables
from tests import reference, samples

BAD = (((), "ba", 0),)
ASKED = [(0, "a"), (3, "a"), (1, "b"), (3, "c"), (3, "d"), (2, "a")]
MANY = [(4, "a"), (0, "a"), (3, "d"), (4, "e"), (1, "b"), (4, "c"), (2, "c"), (3, "c"), (3, "a")]


class Tables(unittest.TestCase):
    def test_nothing_asked_and_nothing_shared(self):
        self.assertEqual(tables((((), "a", 3),), [], 0), [(0, [], [])])
        self.assertEqual(tables(samples.TWICE, [], 3), [(0, [], []), (3, [], [])])

    def test_nothing_asked_leaves_the_ways(self):
        self.assertEqual(tables(samples.DIAMOND, [], 3), [(0, [(0, 6)], []), (2, [(0, 4)], []), (6, [], [])])

    def test_a_row_for_each_number_of_the_kind(self):
        family = (((), "abc", 1), ((), "d", 1), (((0, 0), (1, 0)), "be", 0))
        asked = [(0, "c"), (2, "e"), (0, "b"), (1, "d"), (2, "d")]
        self.assertEqual(tables(family, asked, 0), [(0, [], [(0, 0), (0, 0)])])
        self.assertEqual(tables(family, asked, 1), [(0, [], [(1, 0)])])
        self.assertEqual(tables(family, asked, 2), [(0, [], [(2, 0), (0, 0), (1, 2), (2, 0)]), (2, [], [(1, 0)])])

    def test_shared_elders_and_doers_in_other_slots(self):
        told = [(0, [(0, 6)], [(1, 0), (2, 2), (2, 2), (3, 0)]), (2, [(0, 4)], [(2, 0)]), (6, [], [(2, -4)])]
        self.assertEqual(tables(samples.DIAMOND, ASKED, 3), told)
        self.assertEqual(tables(samples.DIAMOND, ASKED, 1), [(0, [(0, 2)], [(1, 0)]), (2, [], [(0, 0)])])

    def test_one_table_for_all_parts_in_a_slot(self):
        self.assertEqual(tables(samples.CHAIN, MANY, 1), [(0, [], [(0, 0), (1, 0)])])
        told = [(0, [(2, 3)], [(3, 0), (1, 0), (2, 3), (3, 0)]), (3, [], [(2, 0)])]
        self.assertEqual(tables(samples.CHAIN, MANY, 3), told)
        told = [
            (0, [(2, 6)], [(3, 0), (1, 0), (4, 0), (3, 0), (4, 0)]),
            (3, [], [(4, -3)]),
            (6, [], [(4, -6)]),
        ]
        self.assertEqual(tables(samples.CHAIN, MANY, 4), told)

    def test_ways_stand_as_inside_tells_them_and_may_lead_ahead(self):
        told = [(0, [(0, 4), (1, 8)], []), (4, [], []), (8, [(0, -4)], [])]
        self.assertEqual(tables(samples.NESTED, [], 3), told)
        told = [(0, [(1, 2), (0, 3)], []), (2, [(0, 1)], []), (3, [], [])]
        self.assertEqual(tables(samples.NESTED, [], 2), told)

    def test_the_tables_slots_rise_though_parts_are_met_otherwise(self):
        family = (((), "", 0), (((0, 1),), "", 0), ((), "", 0), (((1, 0), (2, 0)), "", 0))
        self.assertEqual([slot for part, slot in laid(family, 3)[1]], [0, 0, 2, 1])
        self.assertEqual([told[0] for told in tables(family, [], 3)], [0, 1, 2])

    def test_refusals(self):
        for kind in (-1, 4, 7, True):
            with self.subTest(kind=kind), self.assertRaises(NoKind):
                tables(samples.DIAMOND, ASKED, kind)
        with self.assertRaises(BadAsked):
            tables(samples.DIAMOND, [(0, "b")], 9)
        with self.assertRaises(BadFamily):
            tables(BAD, [(9, "z")], 9)

    def test_told_lists_may_be_changed(self):
        before = tables(samples.DIAMOND, ASKED, 3)
        told = tables(samples.DIAMOND, ASKED, 3)
        self.assertIs(type(told), list)
        for row in told:
            self.assertEqual([type(item) for item in row], [int, list, list])
            row[1].append((9, 9))
            row[2].clear()
        told.pop()
        self.assertEqual(tables(samples.DIAMOND, ASKED, 3), before)


class Call(unittest.TestCase):
    def test_the_doer_is_the_part_itself(self):
        self.assertEqual(call((((), "ab", 1),), [(0, "b")], 0, (0,), "b"), (0, 0))
        self.assertEqual(call(samples.DIAMOND, ASKED, 3, (3,), "d"), (3, 0))

    def test_the_doer_is_another_part(self):
        self.assertEqual(call(samples.DIAMOND, ASKED, 3, (3,), "a"), (2, 2))
        self.assertEqual(call(samples.DIAMOND, ASKED, 3, (0,), "a"), (2, 2))
        self.assertEqual(call(samples.DIAMOND, ASKED, 3, (3, 2), "a"), (2, 2))
        self.assertEqual(call(samples.DIAMOND, ASKED, 1, (0,), "a"), (0, 2))
        self.assertEqual(call(samples.CHAIN, MANY, 4, (2,), "c"), (4, 0))
        self.assertEqual(call(samples.CHAIN, MANY, 4, (4, 2), "c"), (4, 0))

    def test_by_a_part_that_is_not_the_first_in_its_slot(self):
        self.assertEqual(call(samples.DIAMOND, ASKED, 3, (3, 1), "b"), (1, 0))
        self.assertEqual(call(samples.CHAIN, MANY, 4, (4, 3, 1, 0), "a"), (3, 0))
        self.assertEqual(call(samples.CHAIN, MANY, 4, (4, 3), "d"), (3, 0))
        self.assertEqual(call(samples.CHAIN, MANY, 4, (4, 3), "c"), (4, 0))

    def test_not_asked(self):
        for part, deed in [((3, 2), "c"), ((3, 1), "a"), ((0,), "b"), ((3,), "e"), ((3,), "f"), ((3, 1), "d")]:
            with self.subTest(part=part, deed=deed), self.assertRaises(NotAsked):
                call(samples.DIAMOND, ASKED, 3, part, deed)
        with self.assertRaises(NotAsked):
            call(samples.DIAMOND, [], 3, (3,), "a")
        # The first part in the slot has a number for it, the part by which the thing is held has none.
        with self.assertRaises(NotAsked):
            call(samples.CHAIN, MANY, 4, (4, 3), "e")
        with self.assertRaises(NotAsked):
            call(samples.CHAIN, MANY, 3, (3, 1, 0), "b")

    def test_what_is_handed_in_first_is_refused_first(self):
        with self.assertRaises(NoPart):
            call(samples.DIAMOND, ASKED, 3, (3, 0), "f")
        with self.assertRaises(NoPart):
            call(samples.DIAMOND, ASKED, 3, (), "a")
        with self.assertRaises(NoPart):
            call(samples.DIAMOND, ASKED, 1, (3, 1), "b")
        for kind in (-1, 4, True):
            with self.assertRaises(NoKind):
                call(samples.DIAMOND, ASKED, kind, (9,), "f")
        with self.assertRaises(BadAsked):
            call(samples.DIAMOND, [(0, "b")], 9, (9,), "f")
        with self.assertRaises(BadFamily):
            call(BAD, [(9, "z")], 9, (9,), "f")

    def test_whatever_part_a_thing_is_held_by(self):
        for family, asked in samples.sound_families():
            told = numbers(family, asked)
            for part, slot in reference.laid(family, 3)[1]:
                for deed in "abcdef":
                    if deed not in [named for named, asker in told[part[-1]]]:
                        with self.assertRaises(NotAsked, msg=(family, asked)):
                            call(family, asked, 3, part, deed)
                        continue
                    doing = doer(family, 3, deed)
                    there = dict(laid(family, 3)[1])[doing]
                    self.assertEqual(call(family, asked, 3, part, deed), (doing[-1], there), (family, asked))


class Led(unittest.TestCase):
    def test_where_the_shared_elder_begins(self):
        self.assertEqual(led(samples.DIAMOND, ASKED, 3, (3, 1), 0), 6)
        self.assertEqual(led(samples.DIAMOND, ASKED, 3, (3, 2), 0), 6)
        self.assertEqual(led(samples.DIAMOND, ASKED, 1, (1,), 0), 2)
        self.assertEqual(led(samples.DIAMOND, [], 2, (2,), 0), 3)

    def test_several_and_ahead(self):
        self.assertEqual(led(samples.NESTED, [], 3, (3,), 0), 4)
        self.assertEqual(led(samples.NESTED, [], 3, (3,), 1), 8)
        self.assertEqual(led(samples.NESTED, [], 3, (3, 2), 1), 8)
        self.assertEqual(led(samples.NESTED, [], 3, (1,), 0), 4)

    def test_by_a_part_that_is_not_the_first_in_its_slot(self):
        self.assertEqual(led(samples.CHAIN, MANY, 4, (4, 3), 2), 6)
        self.assertEqual(led(samples.CHAIN, MANY, 3, (3,), 2), 3)

    def test_no_shared_elder(self):
        plain_or_none = [((3,), 1), ((3,), 2), ((3,), 0), ((0,), 0), ((3, 1), 1), ((3, 1), -1), ((3, 1), 9)]
        for part, elder in plain_or_none + [((3, 1), False)]:
            with self.subTest(part=part, elder=elder), self.assertRaises(NoElder):
                led(samples.DIAMOND, ASKED, 3, part, elder)
        with self.assertRaises(NoElder):
            led(samples.CHAIN, MANY, 4, (4,), 2)

    def test_what_is_handed_in_first_is_refused_first(self):
        with self.assertRaises(NoPart):
            led(samples.DIAMOND, ASKED, 3, (3, 0), 9)
        with self.assertRaises(NoPart):
            led(samples.DIAMOND, ASKED, 3, (1,), 0)
        for kind in (-1, 4, True):
            with self.assertRaises(NoKind):
                led(samples.DIAMOND, ASKED, kind, (9,), 9)
        with self.assertRaises(BadAsked):
            led(samples.DIAMOND, [(0, "b")], 9, (9,), 9)
        with self.assertRaises(BadFamily):
            led(BAD, [(9, "z")], 9, (9,), 9)


class SmallFamilies(unittest.TestCase):
    def test_tables_and_led(self):
        for family, asked in samples.sound_families():
            for kind in (2, 3):
                self.assertEqual(tables(family, asked, kind), reference.tables(family, asked, kind), (family, asked))
            begins = dict(reference.laid(family, 3)[1])
            for part in begins:
                for elder in range(4):
                    if (elder, 1) in family[part[-1]][0]:
                        self.assertEqual(led(family, asked, 3, part, elder), begins[(elder,)], (family, asked))
                    else:
                        with self.assertRaises(NoElder, msg=(family, asked)):
                            led(family, asked, 3, part, elder)


if __name__ == "__main__":
    unittest.main()
