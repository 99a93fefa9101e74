"""The errors of the interface."""

import unittest

from alikeboard import errors
from alikeboard.errors import BadText, BoardError, Clash, Full, NoFact, NoMark, NoTerm

PLAIN = (NoTerm, NoFact, BadText, Full, NoMark)


class Errors(unittest.TestCase):
    def test_board_error_is_straight_under_value_error(self):
        self.assertEqual(BoardError.__bases__, (ValueError,))

    def test_each_refusal_is_straight_under_board_error(self):
        for kind in (*PLAIN, Clash):
            with self.subTest(kind.__name__):
                self.assertEqual(kind.__bases__, (BoardError,))

    def test_each_refusal_is_defined_under_its_name_in_errors(self):
        for name in ("BoardError", "NoTerm", "NoFact", "BadText", "Full", "NoMark", "Clash"):
            with self.subTest(name):
                kind = getattr(errors, name)
                self.assertEqual((kind.__name__, kind.__module__), (name, "alikeboard.errors"))

    def test_a_refusal_is_caught_as_itself_and_as_any_refusal(self):
        for kind in PLAIN:
            for caught in (kind, BoardError, ValueError):
                with self.subTest(kind=kind.__name__, caught=caught.__name__):
                    with self.assertRaises(caught):
                        raise kind("a text")

    def test_no_refusal_is_caught_as_another_one(self):
        for kind in (*PLAIN, Clash):
            others = [other for other in (*PLAIN, Clash) if other is not kind]
            self.assertFalse(any(issubclass(kind, other) for other in others), kind.__name__)


class ClashRow(unittest.TestCase):
    def test_row_is_a_list_of_the_places(self):
        with self.assertRaises(BoardError) as caught:
            raise Clash([0, 2, 5])
        self.assertEqual(caught.exception.row, [0, 2, 5])
        self.assertIs(type(caught.exception.row), list)

    def test_row_may_be_empty(self):
        self.assertEqual(Clash([]).row, [])

    def test_row_belongs_to_its_clash_alone(self):
        places = [1, 2]
        first, second = Clash(places), Clash(places)
        first.row.append(3)
        self.assertEqual((places, second.row), ([1, 2], [1, 2]))


if __name__ == "__main__":
    unittest.main()
