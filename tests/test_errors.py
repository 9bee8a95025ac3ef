"""Point 100, and the headings swarmwhole/errors.py and swarmwhole/limits.py of the interface."""

import unittest

from swarmwhole import errors, limits

PLAIN = (
    "BadOctets", "BadValue", "BadKind", "BadProof", "BadContent", "BadMessage", "DiskFell", "BadPiece",
    "BadSwarm", "BadRow", "BadPlan",
)
WITH_ATTRIBUTES = {
    "BadText": ("place",), "BadDescription": ("reason",), "BadSchedule": ("tick",), "BadCase": ("reason",),
    "BadEntry": ("reason",), "BadHistory": ("number", "reason"), "BadKeeper": ("reason",),
}


class Errors(unittest.TestCase):
    def test_100_the_base_class_is_directly_below_value_error(self):
        self.assertEqual(errors.SwarmError.__bases__, (ValueError,))

    def test_100_each_other_class_is_directly_below_the_base_class(self):
        for name in [*PLAIN, *WITH_ATTRIBUTES]:
            with self.subTest(name):
                found = getattr(errors, name)
                self.assertEqual(found.__bases__, (errors.SwarmError,))
                self.assertEqual(found.__module__, "swarmwhole.errors")

    def test_no_other_class_is_there(self):
        there = {name for name, held in vars(errors).items() if isinstance(held, type)}
        self.assertEqual(there, {"SwarmError", *PLAIN, *WITH_ATTRIBUTES})

    def test_plain_classes_take_no_arguments(self):
        for name in PLAIN:
            with self.subTest(name), self.assertRaises(errors.SwarmError):
                raise getattr(errors, name)()

    def test_attributes_are_set_when_an_error_is_created(self):
        for name, attributes in WITH_ATTRIBUTES.items():
            given = [f"what {attribute} tells" for attribute in attributes]
            with self.subTest(name):
                error = getattr(errors, name)(*given)
                self.assertEqual([getattr(error, attribute) for attribute in attributes], given)
                named = getattr(errors, name)(**dict(zip(attributes, given)))
                self.assertEqual([getattr(named, attribute) for attribute in attributes], given)
                with self.assertRaises(TypeError):
                    getattr(errors, name)()

    def test_the_message_of_an_error_may_be_read(self):
        self.assertIsInstance(str(errors.BadText(3)), str)
        self.assertIsInstance(str(errors.BadHistory(1, "kind")), str)


class Limits(unittest.TestCase):
    def test_the_limits_are_those_of_the_interface(self):
        self.assertEqual((limits.VERSION, limits.TURN, limits.REWARDS, limits.ROUND), (1, 5, 2, 20))


if __name__ == "__main__":
    unittest.main()
