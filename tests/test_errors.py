import unittest

from warmove.errors import MoveError, NoHouse, NoLetter, NoRow, NoStep, NoText, TooMany

MADE_OF_A_TEXT = [TooMany, NoHouse, NoLetter, NoStep, NoRow]
RIGHT_UNDER = MADE_OF_A_TEXT + [NoText]


class TestErrors(unittest.TestCase):
    def test_any_refusal_is_a_value_error(self):
        self.assertEqual(MoveError.__bases__, (ValueError,))

    def test_each_is_right_under_move_error(self):
        for kind in RIGHT_UNDER:
            self.assertEqual(kind.__bases__, (MoveError,), kind)

    def test_none_is_under_another_one(self):
        for kind in RIGHT_UNDER:
            for other in RIGHT_UNDER:
                self.assertEqual(issubclass(kind, other), kind is other, (kind, other))

    def test_each_is_defined_in_its_file_by_its_name(self):
        names = ["MoveError", "TooMany", "NoHouse", "NoLetter", "NoStep", "NoRow", "NoText"]
        for kind, name in zip([MoveError] + RIGHT_UNDER, names, strict=True):
            self.assertEqual((kind.__module__, kind.__name__), ("warmove.errors", name))

    def test_made_of_a_text(self):
        for kind in [MoveError] + MADE_OF_A_TEXT:
            self.assertEqual(str(kind("no such thing")), "no such thing")

    def test_each_is_caught_as_a_move_error(self):
        for kind in RIGHT_UNDER:
            with self.assertRaises(MoveError):
                raise kind("0")


class TestNoText(unittest.TestCase):
    def test_keeps_its_field_whatever_it_is(self):
        for line in [0, 1, 21, -1, 10 ** 60, True, False, None, "", "three", (), (1, ("a", None)), [1, [2]]]:
            kept = NoText(line).line
            self.assertEqual(kept, line)
            self.assertIs(type(kept), type(line))

    def test_field_by_its_name(self):
        self.assertEqual(NoText(line=7).line, 7)

    def test_each_keeps_its_own(self):
        first, second = NoText(1), NoText(2)
        self.assertEqual((first.line, second.line), (1, 2))

    def test_field_of_a_raised_one(self):
        with self.assertRaises(NoText) as caught:
            raise NoText(4)
        self.assertEqual(caught.exception.line, 4)

    def test_needs_its_field(self):
        with self.assertRaises(TypeError):
            NoText()


if __name__ == "__main__":
    unittest.main()
