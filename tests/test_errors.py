"""The errors: algebraparts.errors."""

import unittest

from algebraparts.errors import Fault, Malformed, NoText, Refused


class ErrorsTest(unittest.TestCase):

    def test_each_is_a_fault(self):
        for kind in (Malformed, Refused, NoText):
            self.assertTrue(issubclass(kind, Fault))
            self.assertIsNot(kind, Fault)
        self.assertTrue(issubclass(Fault, ValueError))
        self.assertIsNot(Fault, ValueError)

    def test_none_is_a_subclass_of_another(self):
        kinds = (Malformed, Refused, NoText)
        for one in kinds:
            for two in kinds:
                self.assertEqual(issubclass(one, two), one is two)

    def test_reason(self):
        for reason in ("large", "unit", "", "associative"):
            self.assertEqual(Refused(reason).reason, reason)
        with self.assertRaises(Fault) as caught:
            raise Refused("order")
        self.assertEqual(caught.exception.reason, "order")

    def test_at(self):
        for at in (0, 1, 17, -1, 10 ** 20):
            self.assertEqual(NoText(at).at, at)
        with self.assertRaises(Fault) as caught:
            raise NoText(4)
        self.assertEqual(caught.exception.at, 4)

    def test_objects_keep_their_own_fields(self):
        one, two = Refused("one"), Refused("two")
        self.assertEqual((one.reason, two.reason), ("one", "two"))
        three, four = NoText(3), NoText(4)
        self.assertEqual((three.at, four.at), (3, 4))

    def test_each_is_raised_and_caught(self):
        with self.assertRaises(ValueError):
            raise Malformed("no form")
        with self.assertRaises(Malformed):
            raise Malformed()
        self.assertIsInstance(str(Refused("large")), str)
        self.assertIsInstance(str(NoText(2)), str)


if __name__ == "__main__":
    unittest.main()
