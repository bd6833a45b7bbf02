"""[11] unlike, and [12] what comes of it."""

import unittest

from castslots.changes import unlike
from castslots.errors import BadAsked, BadFamily, NoMatch
from castslots.laying import laid
from castslots.tables import numbers, tables
from tests import reference, samples

BAD = (((), "ba", 0),)
WORSE = (((), "", 0), ((), "", 4))
ASKED = [(0, "a"), (3, "a"), (1, "b"), (3, "c"), (3, "d"), (2, "a")]
ROOT = ((), "", 0)


def changed(family, number, kind):
    return family[:number] + (kind,) + family[number + 1:]


class Unlike(unittest.TestCase):
    def test_a_family_and_itself(self):
        for family in samples.FAMILIES:
            for asked in ([], samples.known_pairs(family)[:60]):
                self.assertEqual(unlike(family, family, asked), [])

    def test_other_cells(self):
        other = changed(samples.DIAMOND, 1, (((0, 1),), "b", 2))
        told = [(1, True, False, True), (3, True, False, True)]
        self.assertEqual(unlike(samples.DIAMOND, other, ASKED), told)
        self.assertEqual(unlike(other, samples.DIAMOND, ASKED), told)

    def test_other_cells_that_move_no_part(self):
        family = (((), "a", 0), (((0, 0),), "b", 0))
        other = (((), "a", 0), (((0, 0),), "b", 3))
        told = [(1, True, False, False)]
        self.assertEqual(unlike(family, other, [(0, "a"), (1, "b")]), told)
        self.assertEqual(unlike(other, family, [(0, "a"), (1, "b")]), told)

    def test_other_deeds_alone(self):
        other = changed(samples.DIAMOND, 3, (((1, 0), (2, 0)), "ad", 1))
        told = [(3, False, False, True)]
        self.assertEqual(unlike(samples.DIAMOND, other, ASKED), told)
        self.assertEqual(unlike(other, samples.DIAMOND, ASKED), told)
        self.assertEqual(unlike(samples.DIAMOND, other, [(3, "d"), (1, "b")]), [])
        self.assertEqual(unlike(samples.DIAMOND, other, []), [])

    def test_other_numbers_in_the_same_tables(self):
        # Kind 1 has the deed's number from its elder or by itself, and does it itself both times.
        family = (((), "a", 0), (((0, 0),), "a", 0))
        other = (((), "a", 0), ((), "a", 0))
        told = [(1, True, True, False)]
        self.assertEqual(unlike(family, other, [(0, "a"), (1, "a")]), told)
        self.assertEqual(unlike(other, family, [(1, "a"), (0, "a"), (1, "a")]), told)
        self.assertEqual(unlike(family, other, [(1, "a")]), [(1, True, False, False)])

    def test_all_three_are_other(self):
        family = (((), "ab", 0), ((), "ab", 0), (((0, 0),), "", 0))
        other = (((), "ab", 0), ((), "ab", 0), (((1, 0),), "", 0))
        told = [(2, True, True, True)]
        self.assertEqual(unlike(family, other, [(0, "a"), (2, "b")]), told)
        self.assertEqual(unlike(other, family, [(0, "a"), (2, "b")]), told)

    def test_other_elders(self):
        shared = (ROOT, (((0, 1),), "a", 0))
        plain = (ROOT, (((0, 0),), "a", 0))
        self.assertEqual(unlike(shared, plain, [(1, "a")]), [(1, True, False, True)])
        self.assertEqual(unlike(plain, shared, []), [(1, True, False, True)])
        none = (ROOT, ((), "a", 0))
        self.assertEqual(unlike(none, plain, [(1, "a")]), [(1, True, False, False)])
        self.assertEqual(unlike(none, plain, []), [(1, True, False, False)])

    def test_the_order_in_which_parts_are_told_counts(self):
        # The same parts in the same slots, but laid tells them in another order.
        family = (ROOT, ROOT, (((0, 1), (1, 0)), "", 0))
        other = (ROOT, ROOT, (((1, 0), (0, 1)), "", 0))
        self.assertEqual(dict(laid(family, 2)[1]), dict(laid(other, 2)[1]))
        self.assertEqual(unlike(family, other, []), [(2, True, False, False)])

    def test_only_the_size_is_other(self):
        family = (((), "a", 0), (((0, 1),), "", 0))
        other = (((), "a", 2), (((0, 1),), "", 0))
        self.assertEqual(unlike(family, other, [(0, "a")]), [(0, True, False, False), (1, True, False, False)])

    def test_all_kinds_rising(self):
        other = changed(samples.CHAIN, 0, ((), "a", 2))
        told = unlike(samples.CHAIN, other, [(4, "a"), (2, "c")])
        shift = [(kind, True, False, kind > 2) for kind in (0, 1, 3, 4)]
        self.assertEqual(told, shift)

    def test_flags_are_true_or_false(self):
        for kind, *flags in unlike(samples.CHAIN, changed(samples.CHAIN, 0, ((), "a", 2)), []):
            self.assertEqual([type(flag) for flag in flags], [bool] * 3)

    def test_told_lists_may_be_changed(self):
        other = changed(samples.DIAMOND, 1, (((0, 1),), "b", 2))
        told = unlike(samples.DIAMOND, other, ASKED)
        self.assertIs(type(told), list)
        self.assertEqual([type(row) for row in told], [tuple, tuple])
        told.clear()
        self.assertEqual(len(unlike(samples.DIAMOND, other, ASKED)), 2)


class Refusals(unittest.TestCase):
    def refused(self, error, number, family, other, asked):
        with self.subTest(family=family, other=other, asked=asked), self.assertRaises(error) as caught:
            unlike(family, other, asked)
        self.assertIs(type(caught.exception), error)
        if number is not None:
            self.assertEqual(caught.exception.number, number)

    def test_the_one_then_the_other(self):
        many = [(9, "z")] * 61
        self.refused(BadFamily, 0, BAD, WORSE, many)
        self.refused(BadFamily, 1, WORSE, BAD, many)
        self.refused(BadFamily, 1, (ROOT,), WORSE, many)
        self.refused(BadFamily, 0, (ROOT, ROOT), BAD, many)
        self.refused(BadFamily, 7, (ROOT,), (ROOT,) * 8, many)
        self.refused(BadFamily, 0, (), (ROOT,) * 8, many)

    def test_unlike_counts(self):
        self.refused(NoMatch, None, (ROOT,), (ROOT, ROOT), [])
        self.refused(NoMatch, None, (ROOT, ROOT), (ROOT,), [])
        self.refused(NoMatch, None, samples.DIAMOND, samples.CHAIN, [(9, "z")] * 61)

    def test_asked_by_either(self):
        family = (((), "ab", 0),)
        other = (((), "bc", 0),)
        self.assertEqual(unlike(family, other, [(0, "b")]), [])
        self.refused(BadAsked, 1, family, other, [(0, "b"), (0, "a")])
        self.refused(BadAsked, 1, other, family, [(0, "b"), (0, "a")])
        self.refused(BadAsked, 2, family, other, [(0, "b"), (0, "b"), (0, "d")])
        self.refused(BadAsked, 60, family, other, [(0, "a")] * 61)
        self.refused(BadAsked, 60, family, other, [(0, "b")] * 61)

    def test_the_first_pair_that_either_refuses(self):
        family = (((), "ab", 0),)
        other = (((), "bc", 0),)
        for asked in ([(0, "b"), (0, "a"), (0, "c")], [(0, "b"), (0, "c"), (0, "a")]):
            self.refused(BadAsked, 1, family, other, asked)
            self.refused(BadAsked, 1, other, family, asked)


def one_change(family, turn):
    """The family with one kind changed by turns in its deeds, its cells or its elders."""
    number = turn % 4
    elders, deeds, cells = family[number]
    if turn % 3 == 0:
        return changed(family, number, (elders, ("", "a", "ab", "abc", "c", "f")[turn % 6 - turn % 2], cells))
    if turn % 3 == 1:
        return changed(family, number, (elders, deeds, (cells + 1) % 4))
    return changed(family, number, (elders[1:], deeds, cells))


def pairs_of_small_families():
    """Families and changed ones, with some that can be asked of both."""
    for turn, (family, asked) in enumerate(samples.sound_families()):
        other = one_change(family, turn)
        if reference.first_bad(other) is None:
            both = samples.known_pairs(other)
            yield turn, family, other, [pair for pair in asked if pair in both]


class Changes(unittest.TestCase):
    def test_small_families(self):
        seen = set()
        for turn, family, other, asked in pairs_of_small_families():
            told = reference.unlike(family, other, asked)
            self.assertEqual(unlike(family, other, asked), told, (family, other, asked))
            self.assertEqual(unlike(other, family, asked), told, (family, other, asked))
            seen.update(row[1:] for row in told)
        self.assertLessEqual({(True, False, True), (True, False, False), (False, False, True)}, seen)

    def test_a_kind_without_another_one_inside_is_never_among_them(self):
        for turn, family, other, asked in pairs_of_small_families():
            among = [row[0] for row in unlike(family, other, asked)]
            for kind in range(4):
                kinds = {part[-1] for part in reference.parts(family, kind)}
                if all(family[inner] == other[inner] for inner in kinds):
                    self.assertNotIn(kind, among, (family, other, asked))

    def test_where_only_deeds_are_other_no_slots_are(self):
        tried = 0
        for turn, family, other, asked in pairs_of_small_families():
            if all(ours[::2] == theirs[::2] for ours, theirs in zip(family, other)):
                tried += 1
                for kind, slots, numbering, telling in unlike(family, other, asked):
                    self.assertFalse(slots, (family, other, asked))
        self.assertGreater(tried, 100)

    def test_kinds_more_at_the_end(self):
        ends = (((), "abcdef", 3), (((3, 1), (0, 0)), "abcdef", 1), (((3, 0), (2, 1), (1, 0)), "abcdef", 2))
        for turn, (family, asked) in enumerate(samples.sound_families()):
            longer = family + (ends[turn % 3],)
            more = asked + [(4, "a"), (4, "f")]
            self.assertEqual(numbers(longer, more)[:4], numbers(family, asked), (family, asked))
            for kind in range(4):
                self.assertEqual(laid(longer, kind), laid(family, kind), family)
                self.assertEqual(tables(longer, more, kind), tables(family, asked, kind), (family, asked))

    def test_one_more_kind_that_is_changed_leaves_those_ahead(self):
        family = samples.DIAMOND + ((((3, 0),), "a", 0),)
        other = samples.DIAMOND + ((((3, 1), (0, 1)), "abcd", 3),)
        self.assertEqual([row[0] for row in unlike(family, other, ASKED + [(4, "a")])], [4])


if __name__ == "__main__":
    unittest.main()
