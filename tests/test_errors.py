import unittest

from doorbeat import errors


class TestErrors(unittest.TestCase):
    def test_all_are_door_errors_and_value_errors(self):
        self.assertTrue(issubclass(errors.DoorError, ValueError))
        for name in ("BadMemory", "BadProgram", "BadRule", "BadOrder", "TooMany", "BadText"):
            with self.subTest(name=name):
                kind = getattr(errors, name)
                self.assertTrue(issubclass(kind, errors.DoorError))
                self.assertEqual(kind.__module__, "doorbeat.errors")

    def test_none_is_another(self):
        kinds = (errors.BadMemory, errors.BadProgram, errors.BadRule, errors.BadOrder, errors.TooMany, errors.BadText)
        for kind in kinds:
            for other in kinds:
                self.assertEqual(issubclass(kind, other), kind is other)

    def test_bad_program_has_door_and_place(self):
        error = errors.BadProgram(1, 7)
        self.assertEqual((error.door, error.place), (1, 7))
        self.assertIsInstance(str(error), str)

    def test_bad_text_has_row_and_place(self):
        error = errors.BadText(1, 7)
        self.assertEqual((error.row, error.place), (1, 7))
        self.assertIsInstance(str(error), str)

    def test_others_are_raised_with_a_message(self):
        for kind in (errors.DoorError, errors.BadMemory, errors.BadRule, errors.BadOrder, errors.TooMany):
            with self.assertRaises(errors.DoorError):
                raise kind("why")


if __name__ == "__main__":
    unittest.main()
