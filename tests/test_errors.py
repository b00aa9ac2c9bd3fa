import unittest

from archway import errors

# Each class of the interface with its base class.
BASES = {
    "ArchwayError": "ValueError",
    "InvalidText": "ArchwayError",
    "InvalidPlace": "InvalidText",
    "UnbalancedText": "InvalidText",
    "TextTooLong": "InvalidText",
    "InvalidWord": "ArchwayError",
    "SentenceTooLarge": "ArchwayError",
    "DifferentLabels": "ArchwayError",
    "TooManyValues": "ArchwayError",
    "TooManySteps": "ArchwayError",
    "TooManyLines": "ArchwayError",
    "DocumentError": "ArchwayError",
    "UnknownName": "DocumentError",
    "InvalidName": "DocumentError",
    "TooManyNames": "DocumentError",
    "OutsideText": "DocumentError",
    "NotBalanced": "DocumentError",
    "TooManyEdits": "DocumentError",
}

FIELDS = {
    "InvalidPlace": "number",
    "UnbalancedText": "place",
    "InvalidWord": "number",
    "UnknownName": "name",
    "InvalidName": "name",
}


def ancestors(name):
    """List the names of a class and of all classes above it in the interface."""
    found = [name]
    while found[-1] in BASES:
        found.append(BASES[found[-1]])
    return found


class Classes(unittest.TestCase):
    def test_each_class_is_defined_in_the_file(self):
        for name in BASES:
            with self.subTest(name):
                made = getattr(errors, name)
                self.assertEqual((made.__name__, made.__module__), (name, "archway.errors"))

    def test_each_class_stands_beneath_its_base_classes_and_no_others(self):
        for low in BASES:
            self.assertTrue(issubclass(getattr(errors, low), ValueError))
            for high in BASES:
                with self.subTest(low=low, high=high):
                    beneath = issubclass(getattr(errors, low), getattr(errors, high))
                    self.assertEqual(beneath, high in ancestors(low))

    def test_errors_are_caught_by_each_of_their_base_classes(self):
        for name in BASES:
            for high in ancestors(name)[:-1] + ["ArchwayError"]:
                with self.subTest(name=name, high=high):
                    with self.assertRaises(getattr(errors, high)):
                        raise self.made(name)

    def made(self, name):
        made = getattr(errors, name)
        return made(7) if name in FIELDS else made()


class Fields(unittest.TestCase):
    def test_numbers_and_places(self):
        for number in (0, 1, 250):
            self.assertEqual(errors.InvalidPlace(number).number, number)
            self.assertEqual(errors.InvalidWord(number).number, number)
            self.assertEqual(errors.UnbalancedText(number).place, number)

    def test_names(self):
        for name in ("", "a", "letters", "With Capital"):
            self.assertEqual(errors.UnknownName(name).name, name)
            self.assertEqual(errors.InvalidName(name).name, name)

    def test_fields_are_set_on_each_object(self):
        first = errors.InvalidPlace(1)
        second = errors.InvalidPlace(2)
        self.assertEqual((first.number, second.number), (1, 2))

    def test_each_error_can_be_shown(self):
        for name in BASES:
            made = getattr(errors, name)
            self.assertIsInstance(str(made(7) if name in FIELDS else made()), str)


if __name__ == "__main__":
    unittest.main()
