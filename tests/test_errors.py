import unittest

from crosslift import errors

GIVEN = {
    "InvalidTable": {"part": 2, "index": 5},
    "InvalidGoal": {"row": 3, "column": 4},
    "InvalidEdit": {"index": 6, "reason": "locked"},
    "BatchAborted": {"index": 7, "reason": "malformed"},
    "InvalidCertificate": {"index": 8},
    "UnbalancedCertificate": {"index": 9},
    "NoSolution": {},
    "UnknownLine": {},
    "InvalidCost": {},
    "ParseError": {"row": 11},
}


class Errors(unittest.TestCase):
    def test_base_class(self):
        self.assertEqual(errors.LiftError.__bases__, (ValueError,))

    def test_direct_subclasses_with_their_attributes(self):
        for name, attributes in GIVEN.items():
            with self.subTest(name):
                kind = getattr(errors, name)
                self.assertEqual(kind.__bases__, (errors.LiftError,))
                error = kind(**attributes)
                for attribute, value in attributes.items():
                    self.assertEqual(getattr(error, attribute), value)

    def test_attributes_belong_to_each_object(self):
        one = errors.InvalidTable(part=0, index=1)
        two = errors.InvalidTable(part=1, index=2)
        self.assertEqual((one.part, one.index, two.part, two.index), (0, 1, 1, 2))

    def test_caught_by_the_base_class(self):
        for name, attributes in GIVEN.items():
            with self.assertRaises(errors.LiftError):
                raise getattr(errors, name)(**attributes)
