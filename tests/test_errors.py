import unittest

from matroidpick import errors

KINDS = ["NoChoice", "NoThing", "NoExchange", "NoWeights", "NoRule"]


class Errors(unittest.TestCase):
    def test_pick_error_is_a_value_error(self):
        self.assertTrue(issubclass(errors.PickError, ValueError))
        self.assertEqual(errors.PickError.__bases__, (ValueError,))

    def test_each_kind_is_a_pick_error_and_a_value_error(self):
        for name in KINDS:
            with self.subTest(name):
                kind = getattr(errors, name)
                self.assertTrue(issubclass(kind, errors.PickError))
                self.assertTrue(issubclass(kind, ValueError))
                self.assertIsNot(kind, errors.PickError)

    def test_no_kind_stands_under_another_one(self):
        for name in KINDS:
            for other in KINDS:
                if name != other:
                    with self.subTest(name, other=other):
                        self.assertFalse(issubclass(getattr(errors, name), getattr(errors, other)))

    def test_each_is_defined_in_its_file_under_its_name(self):
        for name in ["PickError"] + KINDS:
            with self.subTest(name):
                kind = getattr(errors, name)
                self.assertEqual(kind.__name__, name)
                self.assertEqual(kind.__module__, "matroidpick.errors")

    def test_each_kind_is_raised_and_caught_as_any_refusal(self):
        for name in KINDS:
            for caught in (getattr(errors, name), errors.PickError, ValueError):
                with self.subTest(name, caught=caught):
                    with self.assertRaises(caught) as held:
                        raise getattr(errors, name)("what is wrong")
                    self.assertEqual(str(held.exception), "what is wrong")

    def test_a_kind_is_not_caught_as_another_one(self):
        with self.assertRaises(errors.NoThing):
            try:
                raise errors.NoThing("7")
            except (errors.NoChoice, errors.NoExchange, errors.NoWeights, errors.NoRule):
                self.fail("caught as another kind")


if __name__ == "__main__":
    unittest.main()
