import unittest

from fardesk import errors

WITH_ATTRIBUTE = {
    "InvalidArgument": ("name", "rows"),
    "RefusedError": ("reason", "no frame"),
    "MalformedPacket": ("place", 12),
    "NoSuchPacket": ("place", -1),
}
WITHOUT_ATTRIBUTE = (
    "TooManyPackets", "TooManyMessages", "NotClosed", "AlreadyClosed",
    "NoAssociation", "AssociationClosing", "NoWay",
)


class TestErrors(unittest.TestCase):
    def all_below(self):
        return [getattr(errors, name) for name in tuple(WITH_ATTRIBUTE) + WITHOUT_ATTRIBUTE]

    def test_base_class_is_a_value_error(self):
        self.assertEqual(errors.DeskError.__bases__, (ValueError,))

    def test_each_class_is_directly_below_desk_error(self):
        for error in self.all_below():
            self.assertEqual(error.__bases__, (errors.DeskError,), error)

    def test_none_below_is_a_base_class_of_another_one(self):
        for error in self.all_below():
            for other in self.all_below():
                self.assertEqual(issubclass(error, other), error is other, (error, other))

    def test_attributes_are_given_by_position(self):
        for name, (attribute, value) in WITH_ATTRIBUTE.items():
            error = getattr(errors, name)(value)
            self.assertEqual(getattr(error, attribute), value)
            self.assertEqual(list(vars(error)), [attribute])

    def test_an_attribute_is_needed(self):
        for name in WITH_ATTRIBUTE:
            with self.assertRaises(TypeError):
                getattr(errors, name)()

    def test_others_are_made_without_arguments(self):
        for name in WITHOUT_ATTRIBUTE:
            with self.assertRaises(errors.DeskError) as caught:
                raise getattr(errors, name)()
            self.assertIs(caught.exception.__class__, getattr(errors, name))
            self.assertEqual(vars(caught.exception), {})

    def test_each_is_defined_in_its_file(self):
        for error in self.all_below() + [errors.DeskError]:
            self.assertEqual(error.__module__, "fardesk.errors")
