"""[1], [2] and [4] over the whole program: what is handed in and told, and what each function refuses."""

import copy
import unittest

from castslots import errors
from castslots.changes import unlike
from castslots.families import doer, inside, knows, need_family, parts
from castslots.laying import laid, moved, own_cells, step
from castslots.notes import read, written
from castslots.tables import call, led, numbers, reason, tables
from tests import samples

ASKED = [(0, "a"), (3, "a"), (1, "b"), (3, "c"), (3, "d"), (2, "a"), (3, "a")]
OTHER = samples.DIAMOND[:3] + ((((2, 0), (1, 0)), "cd", 2),)

# Each function with a family as its first argument, the others behind it being good ones for DIAMOND.
QUESTIONS = (
    (need_family, ()),
    (parts, (3,)),
    (inside, (3, (3, 2))),
    (knows, (3,)),
    (doer, (3, "a")),
    (laid, (3,)),
    (own_cells, (3, (3, 2))),
    (moved, (3, (3, 2), 0)),
    (step, (3, 2)),
    (numbers, (ASKED,)),
    (tables, (ASKED, 3)),
    (call, (ASKED, 3, (3, 2), "a")),
    (led, (ASKED, 3, (3, 2), 0)),
    (reason, (ASKED, 3, "b")),
    (unlike, (OTHER, ASKED)),
    (written, ()),
)

ROOT = ((), "", 0)
BAD = (
    ((), 0),
    ((ROOT,) * 8, 7),
    ((((), "ba", 0),) * 8, 7),
    ((((), "ba", 0),), 0),
    ((ROOT, ((), "g", 0)), 1),
    ((ROOT, (((1, 0),), "", 0), ((), "", 9)), 1),
    ((ROOT, (((0, 2),), "", 0)), 1),
    ((ROOT, ROOT, (((0, 0), (0, 1)), "", 0)), 2),
    ((ROOT, ROOT, ROOT, ((), "", 4)), 3),
    ((((), "a", 0), ((), "a", 0), (((0, 0), (1, 1)), "", 0)), 2),
    (samples.SIXTEEN + ((((5, 0),), "", 0),), 6),
)


def spoil(told):
    """Change all lists in what was told, inner ones too."""
    if isinstance(told, (list, tuple)):
        for item in told:
            spoil(item)
    if isinstance(told, list):
        told.append("more")
        told.reverse()


def kinds_of(value):
    """The kinds of a value and of all within it."""
    if isinstance(value, (list, tuple)):
        return {type(value)}.union(*[kinds_of(item) for item in value])
    return {type(value)}


class HandedIn(unittest.TestCase):
    def test_it_stays_as_it_is(self):
        for function, rest in QUESTIONS:
            with self.subTest(function=function.__name__):
                before = copy.deepcopy(rest)
                told = function(samples.DIAMOND, *rest)
                self.assertEqual(rest, before)
                spoil(told)
                self.assertEqual(rest, before)

    def test_the_list_that_is_asked_may_be_changed_later(self):
        for function, rest in QUESTIONS:
            given = copy.deepcopy(rest)
            told = function(samples.DIAMOND, *given)
            before = copy.deepcopy(told)
            for item in given:
                if isinstance(item, list):
                    item.clear()
                    item.append((9, "z"))
            with self.subTest(function=function.__name__):
                self.assertEqual(told, before)
                self.assertEqual(function(samples.DIAMOND, *rest), before)

    def test_refusing_changes_nothing(self):
        for bad in ([(0, "a"), (0, "b"), (9, "a")], [(0, "a")] * 61):
            before = list(bad)
            with self.assertRaises(errors.BadAsked):
                numbers(samples.DIAMOND, bad)
            with self.assertRaises(errors.BadAsked):
                unlike(samples.DIAMOND, OTHER, bad)
            self.assertEqual(bad, before)


class Told(unittest.TestCase):
    def test_it_may_be_changed(self):
        for function, rest in QUESTIONS:
            with self.subTest(function=function.__name__):
                before = copy.deepcopy(function(samples.DIAMOND, *rest))
                spoil(function(samples.DIAMOND, *rest))
                self.assertEqual(function(samples.DIAMOND, *rest), before)

    def test_lists_within_are_not_the_same_list(self):
        for asked in ([], ASKED):
            told = numbers(samples.TWICE, [(0, "a")]) + numbers(samples.DIAMOND, asked)
            for table in tables(samples.DIAMOND, asked, 3):
                told.extend([table[1], table[2]])
            self.assertEqual(len({id(item) for item in told}), len(told))
        told = numbers(samples.TWICE, [(0, "a")])
        told[0].clear()
        self.assertEqual(told[1], [("a", 0)])

    def test_all_numbers_are_whole(self):
        allowed = {int, str, list, tuple}
        for function, rest in QUESTIONS:
            told = function(samples.DIAMOND, *rest)
            with self.subTest(function=function.__name__):
                if function is unlike:
                    self.assertEqual({type(row[0]) for row in told}, {int})
                elif function is need_family:
                    self.assertIsNone(told)
                else:
                    self.assertLessEqual(kinds_of(told), allowed)
        self.assertLessEqual(kinds_of(read(written(samples.DIAMOND))), allowed)


class EveryFunction(unittest.TestCase):
    def refused(self, number, function, *given):
        with self.subTest(function=function.__name__, given=given), self.assertRaises(ValueError) as caught:
            function(*given)
        self.assertIs(type(caught.exception), errors.BadFamily)
        self.assertEqual(caught.exception.number, number)

    def test_what_is_no_family_is_refused(self):
        for family, number in BAD:
            for function, rest in QUESTIONS:
                self.refused(number, function, family, *rest)

    def test_ahead_of_all_else(self):
        worse = {list: [(9, "z")] * 61, int: 99, tuple: (99,), str: "z"}
        for family, number in BAD:
            for function, rest in QUESTIONS:
                self.refused(number, function, family, *[worse[type(item)] for item in rest])

    def test_the_other_family(self):
        for family, number in BAD:
            self.refused(number, unlike, samples.DIAMOND, family, ASKED)
            self.refused(number, unlike, (ROOT,), family, [(9, "z")] * 61)

    def test_what_is_read(self):
        for family, number in BAD[1:]:
            rows = []
            for elders, deeds, cells in family:
                if any(shared == 2 for elder, shared in elders) or "g" in deeds:
                    break
                pairs = ",".join(f"{elder}*" if shared else f"{elder}" for elder, shared in elders)
                rows.append(f"kind {pairs or '-'} {deeds or '-'} {cells}")
            else:
                self.refused(number, read, "\n".join(rows))

    def test_each_refusal_is_of_one_class(self):
        cases = (
            (errors.BadAsked, call, (samples.DIAMOND, [(0, "b")], 9, (9,), "z")),
            (errors.NoKind, call, (samples.DIAMOND, ASKED, 9, (9,), "z")),
            (errors.NoPart, call, (samples.DIAMOND, ASKED, 3, (9,), "z")),
            (errors.NotAsked, call, (samples.DIAMOND, ASKED, 3, (3,), "z")),
            (errors.NoElder, led, (samples.DIAMOND, ASKED, 3, (3,), 9)),
            (errors.NoMatch, unlike, (samples.DIAMOND, samples.CHAIN, [(9, "z")])),
            (errors.BadText, read, ("kind",)),
        )
        for error, function, given in cases:
            with self.subTest(error=error.__name__), self.assertRaises(errors.SlotError) as caught:
                function(*given)
            self.assertIs(type(caught.exception), error)


if __name__ == "__main__":
    unittest.main()
