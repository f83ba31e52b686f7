"""neverlate.errors: each error class, its base and its attributes."""

import unittest

from neverlate import errors


class ErrorClasses(unittest.TestCase):
    PLAIN = ["InvalidRatio", "InvalidTask", "InvalidTable", "InvalidSystem", "NothingToUndo", "NothingToRedo"]
    ONE_ATTRIBUTE = {
        "UnknownName": "name",
        "UnknownNumber": "number",
        "InvalidNotation": "line",
        "InvalidCertificate": "line",
        "InvalidSchedule": "slot",
        "TooEarly": "time",
        "Undecided": "horizon",
        "FullLoad": "horizon",
        "NameInUse": "name",
    }

    def test_base_class(self):
        self.assertEqual(errors.NeverlateError.__bases__, (ValueError,))

    def test_each_error_is_a_neverlate_error_and_no_other_one(self):
        for name in self.PLAIN + list(self.ONE_ATTRIBUTE) + ["InvalidReleases"]:
            with self.subTest(name):
                self.assertEqual(getattr(errors, name).__bases__, (errors.NeverlateError,))

    def test_plain_errors_take_a_message_or_nothing(self):
        for name in self.PLAIN:
            with self.subTest(name):
                self.assertIsInstance(getattr(errors, name)(), errors.NeverlateError)
                self.assertEqual(str(getattr(errors, name)("why")), "why")

    def test_one_attribute(self):
        for name, attribute in self.ONE_ATTRIBUTE.items():
            with self.subTest(name):
                for value in (7, "seven", None):
                    error = getattr(errors, name)(value)
                    self.assertEqual(vars(error), {attribute: value})
                    self.assertIn(str(value), str(error))

    def test_invalid_releases_has_two_attributes(self):
        error = errors.InvalidReleases(2, 5)
        self.assertEqual((error.task_number, error.release_number), (2, 5))
        self.assertEqual(str(error), "release 5 of task 2 is not legal")


if __name__ == "__main__":
    unittest.main()
