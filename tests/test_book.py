"""Point 15: boards told as rows, and read back."""

import itertools
import unittest

from alikeboard import book
from alikeboard.board import Board
from alikeboard.book import opened, written
from alikeboard.errors import BadText, Clash, Full
from checking import Checking
from reckoning import can_stand, facts_of
from test_board import CLASHES, board_of, seen
from test_groups import GROUPS

LONG = "f(" * 40 + "a" + ")" * 40
BAD_ROWS = ("", " ", "a", "a =", "= a", "a = ", " a = b", "a = b ", "a  = b", "a=b", "a == b", "a < b", "a >= b",
            "a ! b", "A = b", "a = B", "f(a = b", "f() = a", "f(a,b,c,d) = a", "abcdefg = a", "a = b\n", "a = b = c",
            "a b", f"{LONG} = a", f"a = {LONG}", "a\n= b", "a = b\na = b", "f(a, b) = c", "alike a b", "a alike b",
            "a,b = c")
FORTY = [f"{'f(' * (place % 8)}a{')' * (place % 8)} <= {'bcdeg'[place % 5]}" for place in range(40)]


class Written(Checking):
    def test_a_row_for_each_fact_in_order(self):
        for texts, _, _ in CLASHES:
            rows = written(board_of(*texts))
            self.assertEqual(rows, list(texts))
            self.assertIs(type(rows), list)

    def test_each_sign(self):
        texts = ["a = f(a,g(b))", "b != c", "c <= d", "e > d", "a = f(a,g(b))", "a(a,a,a) <= a"]
        self.assertEqual(written(board_of(*texts)), texts)

    def test_the_empty_board(self):
        self.assertEqual(written(Board()), [])

    def test_the_board_is_as_it_was(self):
        made = board_of("a = b", "c > a")
        before = seen(made)
        written(made)
        self.assertEqual(seen(made), before)

    def test_what_was_taken_back_is_not_written(self):
        made = board_of("a = b")
        mark = made.mark()
        made.tell(facts_of("b = c")[0])
        made.back(mark)
        self.assertEqual(written(made), ["a = b"])


class Opened(Checking):
    def test_a_board_on_which_the_facts_were_told(self):
        for texts in [texts for texts, _, _ in CLASHES] + [texts for texts, _ in GROUPS]:
            made = opened(list(texts))
            self.assertIs(type(made), Board)
            self.assertEqual(made.facts(), facts_of(*texts))
            self.assertEqual(seen(made), seen(board_of(*texts)))
            self.assertEqual(written(made), list(texts))

    def test_what_is_written_is_read_to_the_same_facts(self):
        for texts in [texts for texts, _, _ in CLASHES] + [texts for texts, _ in GROUPS]:
            made = board_of(*texts)
            self.assertEqual(opened(written(made)).facts(), made.facts())

    def test_no_rows(self):
        made = opened([])
        self.assertEqual(made.facts(), [])
        self.assertEqual(made.tell(facts_of("a = b")[0]), 0)

    def test_it_has_no_marks_and_takes_more(self):
        made = opened(["a = b", "b <= c"])
        self.assertEqual(made.tell(facts_of("c <= b")[0]), 2)
        self.assertEqual(made.mark(), 0)
        self.assertEqual(made.ask(facts_of("a = c")[0]), ("yes", [0, 1, 2]))

    def test_a_bad_row_is_refused(self):
        for bad in BAD_ROWS:
            for rows in ([bad], ["a = b", bad], [bad, "a = b"], ["a = b", bad, "b = c"], [bad, bad]):
                with self.subTest(rows):
                    self.refused(BadText, opened, rows)

    def test_a_bad_row_ahead_of_clash_and_full(self):
        for bad in BAD_ROWS:
            for rows in (["a = b", "a != b", bad], [bad, "a = b", "a != b"], ["a != a", bad], ["a = b", bad, "b > a"],
                         [*FORTY, "p = q", bad], [bad, *FORTY, "p = q"], [*FORTY, bad], [*FORTY, "a > a", bad]):
                self.refused(BadText, opened, rows)

    def test_clash_as_tell_refuses(self):
        for texts, text, row in CLASHES:
            for behind in ((), ("p = r",), ("a = b", "a != b"), FORTY):
                self.assertEqual(self.refused(Clash, opened, [*texts, text, *behind]).row, row)

    def test_forty_rows_and_forty_one(self):
        self.assertEqual(opened(FORTY).facts(), facts_of(*FORTY))
        self.assertEqual(written(opened(FORTY)), FORTY)
        for more in ("p = q", "a = a", FORTY[0], "a > a", "a > b", "p != p"):
            self.refused(Full, opened, [*FORTY, more])
            self.refused(Full, opened, [*FORTY, more, "p = q"])

    def test_what_comes_first_is_refused_first(self):
        self.assertEqual(self.refused(Clash, opened, [*FORTY[:39], "a > b", "p = q"]).row, [0])
        self.assertEqual(self.refused(Clash, opened, ["a = b", "a != b", *FORTY]).row, [0])
        self.refused(Full, opened, [*FORTY, "a = a", "a != a"])

    def test_rows_in_each_order(self):
        texts = ("a <= b", "b <= a", "f(a) != c", "c > f(b)")
        self.assertTrue(can_stand(facts_of(*texts)))
        for order in itertools.permutations(texts):
            self.assertEqual(opened(list(order)).facts(), facts_of(*order))


class Promised(Checking):
    def test_rows_that_were_told_may_be_changed(self):
        made = board_of("a = b", "c > a")
        for change in (list.clear, list.reverse, lambda rows: rows.append("p = q")):
            change(written(made))
            self.assertEqual(written(made), ["a = b", "c > a"])
            self.assertEqual(made.facts(), facts_of("a = b", "c > a"))

    def test_rows_that_were_handed_in_are_as_they_were_and_may_be_changed(self):
        rows = ["a = b", "c > a"]
        made = opened(rows)
        self.assertEqual(rows, ["a = b", "c > a"])
        rows.clear()
        self.assertEqual(written(made), ["a = b", "c > a"])
        for rows, kind in ((["a = b", "a != b"], Clash), (["a = b", "x"], BadText), ([*FORTY, "p = q"], Full)):
            before = list(rows)
            self.refused(kind, opened, rows)
            self.assertEqual(rows, before)

    def test_two_boards_of_the_same_rows(self):
        rows = ["a = b"]
        first, second = opened(rows), opened(rows)
        first.tell(facts_of("b = c")[0])
        self.assertEqual((written(first), written(second)), (["a = b", "b = c"], ["a = b"]))

    def test_each_function_is_defined_in_book(self):
        for name in ("written", "opened"):
            made = getattr(book, name)
            self.assertEqual((made.__module__, made.__name__), ("alikeboard.book", name))


if __name__ == "__main__":
    unittest.main()
