import unittest

from castslots import errors

PLAIN = ("NoKind", "NoPart", "NoElder", "NotAsked", "NoMatch")
VALUED = (("BadFamily", "number"), ("BadAsked", "number"), ("BadText", "row"))
NAMES = PLAIN + tuple(name for name, value in VALUED)


class Errors(unittest.TestCase):
    def test_slot_error_is_a_value_error(self):
        self.assertEqual(errors.SlotError.__bases__, (ValueError,))

    def test_each_refusal_is_a_slot_error_and_no_other(self):
        for name in NAMES:
            with self.subTest(name=name):
                self.assertEqual(getattr(errors, name).__bases__, (errors.SlotError,))

    def test_classes_are_of_this_file(self):
        for name in NAMES + ("SlotError",):
            with self.subTest(name=name):
                self.assertEqual(getattr(errors, name).__module__, "castslots.errors")

    def test_values_are_set_when_created(self):
        for name, value in VALUED:
            for told in (0, 7, 60):
                with self.subTest(name=name, told=told):
                    self.assertEqual(vars(getattr(errors, name)(told)), {value: told})

    def test_others_can_be_raised_without_a_value(self):
        for name in PLAIN:
            with self.subTest(name=name), self.assertRaises(errors.SlotError):
                raise getattr(errors, name)("why")


if __name__ == "__main__":
    unittest.main()
