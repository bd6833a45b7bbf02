"""[13]: written and read."""

import unittest

from castslots.errors import BadFamily, BadText
from castslots.families import need_family
from castslots.notes import read, written
from tests import reference, samples

TEXT = "kind - a 1\nkind 0* b 1\nkind 0* ac 2\nkind 1,2 d 1"


class Written(unittest.TestCase):
    def test_a_row_for_each_kind(self):
        self.assertEqual(written(samples.DIAMOND), TEXT)
        self.assertEqual(written(samples.NESTED), "kind - f 3\nkind 0* e 0\nkind 1* - 1\nkind 0*,1*,2 - 2")

    def test_neither_elders_nor_deeds(self):
        self.assertEqual(written((((), "", 0),)), "kind - - 0")
        self.assertEqual(written((((), "", 0), (((0, 0),), "", 3))), "kind - - 0\nkind 0 - 3")
        self.assertEqual(written((((), "abcdef", 2),)), "kind - abcdef 2")

    def test_elders_stand_in_their_order(self):
        root = ((), "", 0)
        family = (root, root, root, (((2, 0), (0, 1), (1, 0)), "", 0))
        self.assertEqual(written(family).split("\n")[3], "kind 2,0*,1 - 0")

    def test_refusals(self):
        with self.assertRaises(BadFamily) as caught:
            written((((), "", 0), ((), "ba", 0)))
        self.assertEqual(caught.exception.number, 1)


class ReadAgain(unittest.TestCase):
    def same(self, family):
        told = read(written(family))
        self.assertEqual(told, family)
        self.assertIs(type(told), tuple)
        for elders, deeds, cells in told:
            self.assertEqual([type(item) for pair in elders for item in pair], [int] * (2 * len(elders)))
            self.assertEqual([type(item) for item in (elders, deeds, cells)], [tuple, str, int])

    def test_samples(self):
        for family in samples.FAMILIES:
            self.same(family)
        self.assertEqual(read(TEXT), samples.DIAMOND)

    def test_small_families(self):
        for family in samples.small_families():
            if reference.first_bad(family) is None:
                self.same(family)
            else:
                with self.assertRaises(BadFamily):
                    written(family)

    def test_counts(self):
        for count in range(1, 8):
            self.same((((), "", 0),) * count)


class Read(unittest.TestCase):
    def bad_text(self, text, row):
        with self.subTest(text=text), self.assertRaises(BadText) as caught:
            read(text)
        self.assertIs(type(caught.exception), BadText)
        self.assertEqual(caught.exception.row, row, text)

    def bad_family(self, text, number):
        with self.subTest(text=text), self.assertRaises(BadFamily) as caught:
            read(text)
        self.assertIs(type(caught.exception), BadFamily)
        self.assertEqual(caught.exception.number, number, text)

    def test_the_empty_text(self):
        self.bad_text("", 0)

    def test_line_ends(self):
        self.bad_text("\n", 0)
        self.bad_text("kind - - 0\n", 1)
        self.bad_text("\nkind - - 0", 0)
        self.bad_text("kind - - 0\n\nkind - - 0", 1)
        self.bad_text(TEXT + "\n", 4)
        self.bad_text(TEXT + "\n\n", 4)

    def test_blanks(self):
        for row in ("kind - - 0 ", " kind - - 0", "kind  - - 0", "kind -  - 0", "kind - -  0", " ", "   ", "    "):
            self.bad_text(row, 0)
            self.bad_text("kind - - 0\n" + row, 1)

    def test_words_too_few_and_too_many(self):
        for row in ("kind", "kind -", "kind - -", "- - 0", "kind - - 0 0", "kind - - 0 -", "kind kind - - 0"):
            self.bad_text(row, 0)
        for row in ("kind - 0", "kind  - 0", "kind -  0", "kind - - "):
            self.bad_text(row, 0)

    def test_the_first_word(self):
        for word in ("", "Kind", "KIND", "kin", "kinds", "kind:", "-", "0", "kind-"):
            self.bad_text(f"{word} - - 0", 0)

    def test_elders(self):
        strange = "10 00 0,10 01* 0** *0 * ** 0*1 0, ,0 0,,0 , -, -,0 0,- -* -0 -1 +0 --"
        for word in strange.split() + "a 0a x .0 0. 0;1 0:1 0*,, (0) 0,*".split() + [""]:
            self.bad_text(f"kind {word} - 0", 0)
            self.bad_text(f"kind - - 0\nkind {word} - 0", 1)

    def test_deeds(self):
        for word in "g ag A aB -- a- -a a,b 0 a0 * a* abcdefg ab.".split() + [""]:
            self.bad_text(f"kind - {word} 0", 0)
            self.bad_text(f"kind - - 0\nkind - {word} 0", 1)

    def test_cells(self):
        for word in "00 01 10 11 100 -1 -0 +1 - a * 0* 1, 0.".split() + [""]:
            self.bad_text(f"kind - - {word}", 0)
            self.bad_text(f"kind - - 0\nkind - - {word}", 1)

    def test_signs_that_belong_to_no_row(self):
        for code in range(32, 127):
            if chr(code) == chr(37):
                continue
            for row in (f"kind - - 0{chr(code)}", f"{chr(code)}kind - - 0", f"kind{chr(code)}- - 0"):
                if row != "kind - - 0":
                    self.bad_text(row, 0)
        self.assertEqual(read("kind - - 0"), (((), "", 0),))

    def test_rows_that_are_no_kinds(self):
        for deeds in ("ba", "aa", "abb", "fedcba", "aaaaaaaaaaaaaaaa"):
            self.bad_family(f"kind - {deeds} 0", 0)
            self.bad_family(f"kind - - 0\nkind 0 {deeds} 0", 1)
        for cells in range(4, 10):
            self.bad_family(f"kind - - {cells}", 0)
        for elders in ("0", "0*", "1", "9", "9*", "0,0", "0,1,2,3,4,5,6,7,8,9", "5*,5*,5*"):
            self.bad_family(f"kind {elders} - 0", 0)
        for elders in ("0,0", "0,0*", "0*,0*", "1", "7*", "0,0,0,0"):
            self.bad_family(f"kind - - 0\nkind {elders} - 0", 1)
        self.bad_family("kind - - 0\n" * 4 + "kind 0,1,2,3 - 0", 4)

    def test_rows_that_are_kinds_but_no_family(self):
        self.bad_family("kind - a 0\nkind - a 0\nkind 0,1 - 0", 2)
        self.bad_family(written(samples.SIXTEEN) + "\nkind 5 - 0", 6)
        self.bad_family("kind - - 0\n" * 7 + "kind - - 0", 7)
        self.bad_family("kind - ba 9\n" * 9 + "kind - - 0", 7)

    def test_the_first_of_several_rows(self):
        self.bad_text("kind - - 0\nkind - g 0\nkind", 1)
        self.bad_text("kind - - 0\nkind - - 0\nkind\n\n", 2)
        self.bad_text("kind\nkind - g 0", 0)

    def test_text_is_ahead_of_family(self):
        self.bad_text("kind - ba 9\nkind 5 - 0\nkind", 2)
        self.bad_text("kind - ba 9\n", 1)
        self.bad_text("kind - - 0\n" * 9 + "kind - - x", 9)
        self.bad_text("kind - - 0\n" * 8, 8)

    def test_every_sign_of_a_text_counts(self):
        """Whatever sign is left out of a text or doubled, a family that is read is written so again."""
        for family in samples.FAMILIES:
            text = written(family)
            for at in range(len(text)):
                for strange in (text[:at] + text[at + 1:], text[:at] + text[at] + text[at:]):
                    try:
                        told = read(strange)
                    except (BadText, BadFamily):
                        continue
                    need_family(told)
                    self.assertEqual(written(told), strange)


if __name__ == "__main__":
    unittest.main()
