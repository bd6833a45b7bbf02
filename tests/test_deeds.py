"""[4]: knows and doer."""

import unittest

from castslots.errors import BadFamily, NoKind
from castslots.families import doer, knows
from tests import reference, samples

BAD = (((), "ba", 0),)


class Knows(unittest.TestCase):
    def test_own_deeds(self):
        for deeds in ("", "a", "ce", "abcdef"):
            self.assertEqual(knows((((), deeds, 0),), 0), deeds)

    def test_deeds_of_the_elders(self):
        self.assertEqual([knows(samples.DIAMOND, kind) for kind in range(4)], ["a", "ab", "ac", "abcd"])
        self.assertEqual([knows(samples.NESTED, kind) for kind in range(4)], ["f", "ef", "ef", "ef"])

    def test_letters_rise_whoever_does_them(self):
        family = (((), "df", 0), ((), "ae", 0), (((0, 0), (1, 1)), "b", 0))
        self.assertEqual(knows(family, 2), "abdef")

    def test_refusals(self):
        for kind in (-1, 4, 7):
            with self.subTest(kind=kind), self.assertRaises(NoKind):
                knows(samples.DIAMOND, kind)
        with self.assertRaises(BadFamily):
            knows(BAD, 9)


class Doer(unittest.TestCase):
    def test_itself(self):
        self.assertEqual(doer((((), "abcdef", 0),), 0, "f"), (0,))
        self.assertEqual(doer(samples.DIAMOND, 3, "d"), (3,))
        self.assertEqual(doer(samples.TWICE, 3, "a"), (3,))

    def test_unknown(self):
        self.assertIsNone(doer((((), "", 0),), 0, "a"))
        self.assertIsNone(doer(samples.DIAMOND, 3, "e"))
        self.assertIsNone(doer(samples.DIAMOND, 0, "d"))

    def test_one_road_overrides_what_both_share(self):
        self.assertEqual(doer(samples.DIAMOND, 3, "a"), (3, 2))
        self.assertEqual(doer(samples.DIAMOND, 2, "a"), (2,))
        self.assertEqual(doer(samples.DIAMOND, 1, "a"), (0,))

    def test_an_elder_does_it(self):
        self.assertEqual(doer(samples.DIAMOND, 3, "b"), (3, 1))
        self.assertEqual(doer(samples.DIAMOND, 3, "c"), (3, 2))
        self.assertEqual(doer(samples.TWICE, 3, "b"), (3, 2))
        self.assertEqual(doer(samples.TWICE, 2, "a"), (2, 0))

    def test_a_shared_elder_does_it(self):
        self.assertEqual(doer(samples.NESTED, 3, "f"), (0,))
        self.assertEqual(doer(samples.NESTED, 3, "e"), (1,))

    def test_a_shared_elder_overrides_its_shared_elder(self):
        family = (((), "a", 0), (((0, 1),), "a", 0), (((0, 1), (1, 1)), "", 0))
        self.assertEqual(doer(family, 2, "a"), (1,))

    def test_refusals(self):
        for kind in (-1, 4, 7):
            with self.subTest(kind=kind), self.assertRaises(NoKind):
                doer(samples.DIAMOND, kind, "a")
        with self.assertRaises(BadFamily):
            doer(BAD, 9, "a")

    def test_small_families(self):
        for family in samples.small_families():
            if reference.first_bad(family) is not None:
                continue
            known = ""
            for deed in "abcdef":
                found = reference.doers(family, 3, deed)
                self.assertEqual(doer(family, 3, deed), found[0] if found else None, family)
                known += deed if found else ""
            self.assertEqual(knows(family, 3), known, family)


if __name__ == "__main__":
    unittest.main()
