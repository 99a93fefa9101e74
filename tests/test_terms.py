"""Points 2, 3 and 4: terms, their parts and their texts."""

import itertools
import re
import unittest

from alikeboard import terms
from alikeboard.errors import BadText, NoTerm
from alikeboard.terms import need_term, parts_of, read, shown

A, B, C, D = ("a",), ("b",), ("c",), ("d",)


def tower(names, core=A):
    """A term of so many names above a core, each with one part."""
    for _ in range(names):
        core = ("f", core)
    return core


def bush(names):
    """A wide term with just so many names, its works with up to three parts."""
    many = min(3, names - 1)
    return ("g", *(bush((names - 1 + k) // many) for k in range(many)))


def names_in(term):
    return 1 + sum(names_in(part) for part in term[1:])


GOOD = {
    "a": A,
    "abcdef": ("abcdef",),
    "z": ("z",),
    "f(a)": ("f", A),
    "f(a,b)": ("f", A, B),
    "f(a,b,c)": ("f", A, B, C),
    "f(a,g(b))": ("f", A, ("g", B)),
    "f(g(a),b)": ("f", ("g", A), B),
    "f(f(f))": ("f", ("f", ("f",))),
    "f(f,f(a),f(a,b))": ("f", ("f",), ("f", A), ("f", A, B)),
    "g(h(a,b,c),h(c,b),k(k(k(d))))": ("g", ("h", A, B, C), ("h", C, B), ("k", ("k", ("k", D)))),
}

NO_NAMES = ("", "abcdefg", "abcdefghijklmnop", "A", "aB", "Ab", "a1", "1", "a_b", "_", "a b", " a", "a ", " ",
            "a\n", "\n", "\na", "a-b", "a.b", "a(", "a,b", "a)", "f(a)", "`", "{", "a`", "a{", "@", "[", "~")

NO_TERMS = [(name,) for name in NO_NAMES] + [
    ("f", A, B, C, D),
    ("f", A, A, A, A),
    ("f", A, B, C, D, A),
]


def wrapped(term):
    """The term itself, and terms in which it stands, at each place and deep within."""
    return [
        term, ("g", term), ("g", term, A), ("g", A, term), ("g", A, B, term), ("g", A, term, B),
        tower(30, term), ("g", ("h", A, ("k", B, C, ("f", term))), D),
    ]


class NeedTerm(unittest.TestCase):
    def test_terms_are_taken_and_nothing_is_told(self):
        for term in GOOD.values():
            with self.subTest(term=term):
                self.assertIsNone(need_term(term))

    def test_names_of_one_to_six_letters_are_taken(self):
        for name in ("a", "z", "ab", "abc", "abcd", "abcde", "abcdef", "zzzzzz", "azazaz"):
            for term in wrapped((name,)):
                self.assertIsNone(need_term(term))

    def test_each_letter_is_taken(self):
        for letter in "abcdefghijklmnopqrstuvwxyz":
            self.assertIsNone(need_term((letter,)))

    def test_each_other_sign_is_refused(self):
        letters = "abcdefghijklmnopqrstuvwxyz"
        for sign in ["\n"] + [chr(code) for code in range(32, 127)]:
            if sign not in letters:
                for name in (sign, "a" + sign, sign + "a", "a" + sign + "a"):
                    with self.subTest(name=name), self.assertRaises(NoTerm):
                        need_term((name,))

    def test_what_is_no_term_is_refused_also_deep_within(self):
        for inner in NO_TERMS:
            for term in wrapped(inner):
                with self.subTest(term=term), self.assertRaises(NoTerm):
                    need_term(term)

    def test_a_wrong_name_above_parts_is_refused(self):
        for name in NO_NAMES:
            for parts in ((A,), (A, B), (A, B, C)):
                with self.subTest(name=name), self.assertRaises(NoTerm):
                    need_term((name, *parts))

    def test_forty_names_are_taken(self):
        for term in (tower(39), bush(40), ("f", tower(18), tower(19)), ("f", A, tower(36), A)):
            self.assertEqual(names_in(term), 40)
            self.assertIsNone(need_term(term))

    def test_forty_one_names_are_refused(self):
        for term in (tower(40), bush(41), ("f", tower(19), tower(19)), ("f", A, tower(37), A)):
            self.assertEqual(names_in(term), 41)
            with self.assertRaises(NoTerm):
                need_term(term)

    def test_a_part_counts_as_often_as_it_stands(self):
        twelve = tower(12)
        self.assertIsNone(need_term(("f", twelve, twelve, twelve)))
        thirteen = tower(13)
        with self.assertRaises(NoTerm):
            need_term(("f", thirteen, thirteen, thirteen))

    def test_the_same_name_with_other_counts_of_parts_is_taken(self):
        self.assertIsNone(need_term(("f", ("f",), ("f", ("f",)), ("f", ("f",), ("f",)))))

    def test_an_empty_tuple_is_refused(self):
        for term in wrapped(()):
            with self.subTest(term=term), self.assertRaises(NoTerm):
                need_term(term)

    def test_what_is_far_too_deep_is_refused(self):
        with self.assertRaises(NoTerm):
            need_term(tower(600))

    def test_what_holds_far_too_many_names_is_refused(self):
        term = A
        for _ in range(60):
            term = ("f", term, term)
        with self.assertRaises(NoTerm):
            need_term(term)


class PartsOf(unittest.TestCase):
    def test_a_term_without_parts_has_itself(self):
        self.assertEqual(parts_of(A), [A])

    def test_parts_end_from_the_left_and_the_term_last(self):
        self.assertEqual(parts_of(("f", A, B, C)), [A, B, C, ("f", A, B, C)])
        self.assertEqual(parts_of(("f", C, B, A)), [C, B, A, ("f", C, B, A)])

    def test_a_part_ends_behind_its_own_parts(self):
        term = ("f", A, ("g", B))
        self.assertEqual(parts_of(term), [A, B, ("g", B), term])
        term = ("f", ("g", B), A)
        self.assertEqual(parts_of(term), [B, ("g", B), A, term])
        self.assertEqual(parts_of(tower(3)), [A, tower(1), tower(2), tower(3)])

    def test_a_part_that_stands_more_than_once_is_told_where_it_first_ends(self):
        self.assertEqual(parts_of(("f", A, A, A)), [A, ("f", A, A, A)])
        term = ("f", ("g", B, A), A, ("g", B, A))
        self.assertEqual(parts_of(term), [B, A, ("g", B, A), term])
        term = ("f", ("g", A), ("h", ("g", A), C), B)
        self.assertEqual(parts_of(term), [A, ("g", A), C, ("h", ("g", A), C), B, term])
        term = ("f", B, ("g", A, B), A)
        self.assertEqual(parts_of(term), [B, A, ("g", A, B), term])

    def test_the_same_name_with_other_counts_of_parts_is_another_part(self):
        term = ("f", ("f",), ("f", ("f",)), ("f", ("f",), ("f",)))
        self.assertEqual(parts_of(term), [("f",), ("f", ("f",)), ("f", ("f",), ("f",)), term])

    def test_forty_names_one_below_the_other(self):
        self.assertEqual(parts_of(tower(39)), [tower(k) for k in range(40)])

    def test_a_list_is_told_and_its_parts_are_terms(self):
        told = parts_of(bush(40))
        self.assertIs(type(told), list)
        for part in told:
            self.assertIsNone(need_term(part))

    def test_the_told_list_may_be_changed(self):
        term = ("f", A, ("g", B))
        for change in (lambda rows: rows.clear(), lambda rows: rows.append(C), lambda rows: rows.reverse()):
            change(parts_of(term))
            self.assertEqual(parts_of(term), [A, B, ("g", B), term])
        self.assertEqual(term, ("f", A, ("g", B)))

    def test_what_is_no_term_is_refused(self):
        for term in NO_TERMS + [tower(40), ("g", ("h", ("A",)))]:
            with self.subTest(term=term), self.assertRaises(NoTerm):
                parts_of(term)


def tuples_throughout(term):
    return type(term) is tuple and type(term[0]) is str and all(tuples_throughout(part) for part in term[1:])


def is_term_text(text):
    """Whether a short text is a term's, found by crossing out terms from within (X stands for one)."""
    text = re.sub(r"(?<![a-z])[a-z]{1,6}(?![a-z(])", "X", text)
    while True:
        shorter = re.sub(r"(?<![a-z])[a-z]{1,6}\(X(,X){0,2}\)", "X", text)
        if shorter == text:
            return text == "X"
        text = shorter


class Texts(unittest.TestCase):
    def test_terms_are_written(self):
        for text, term in GOOD.items():
            with self.subTest(text):
                self.assertEqual(shown(term), text)

    def test_texts_are_read(self):
        for text, term in GOOD.items():
            with self.subTest(text):
                self.assertEqual(read(text), term)
                self.assertTrue(tuples_throughout(read(text)))

    def test_what_is_written_is_read_to_the_same_term(self):
        for term in [*GOOD.values(), *(tower(k) for k in range(40)), *(bush(k) for k in range(1, 41))]:
            back = read(shown(term))
            self.assertEqual(back, term)
            self.assertTrue(tuples_throughout(back))

    def test_asked_again_the_same_is_told(self):
        for text, term in GOOD.items():
            self.assertEqual((shown(term), shown(term)), (text, text))
            self.assertEqual((read(text), read(text)), (term, term))

    def test_what_is_no_term_is_not_written(self):
        for term in NO_TERMS + [tower(40), ("g", ("h", ("A",)))]:
            with self.subTest(term=term), self.assertRaises(NoTerm):
                shown(term)


class BadTexts(unittest.TestCase):
    def refused(self, text):
        with self.subTest(text=text):
            with self.assertRaises(ValueError) as caught:
                read(text)
            self.assertIs(type(caught.exception), BadText)

    def test_the_empty_text(self):
        self.refused("")

    def test_a_blank_or_a_line_feed_at_each_place(self):
        for text in GOOD:
            for at in range(len(text) + 1):
                for sign in (" ", "\n", "  "):
                    self.refused(text[:at] + sign + text[at:])

    def test_empty_brackets(self):
        for text in ("a()", "()", "f(a,g())", "f(())", "f(g(),a)", "f()()", "f(a)()"):
            self.refused(text)

    def test_a_bracket_or_a_comma_too_many(self):
        for text in ("(", ")", "(a)", "a)", "f(a))", "f((a))", "f(a)(b)", "f(a,b))", "f(g(a)))", "((a)", "f)a("):
            self.refused(text)
        for text in (",", ",a", "a,", "f(a,)", "f(,a)", "f(a,,b)", "f(a),", "f(,)", "f,(a)", "a,b", "f(a)b,c"):
            self.refused(text)

    def test_a_bracket_or_a_comma_missing(self):
        for text in ("f(", "f(a", "f(a,", "f(a,b", "f(a,g(b)", "f(g(a", "fa)", "f(a,gb))", "f(g(a)b)", "f(g(a)h(b))"):
            self.refused(text)

    def test_signs_behind_the_end(self):
        for text in ("f(a)b", "f(a)g(b)", "f(a)f", "a.", "f(a).", "a = b", "a=b", "f(a)~", "a\n", "f(a)\nf(a)"):
            self.refused(text)

    def test_names_that_are_none(self):
        for name in ("", "abcdefg", "A", "aB", "Ab", "a1", "1", "a_b", "_", "a-b", "a.b", "`", "{", "@", "[", "~"):
            for text in (name, f"{name}(a)", f"f({name})", f"f(a,{name})", f"f(a,g({name},b),c)", f"{name}(a,b,c)"):
                self.refused(text)

    def test_more_than_three_parts(self):
        for text in ("f(a,b,c,d)", "f(a,a,a,a)", "g(f(a,b,c,d))", "g(a,b,f(a,b,c,d))", "f(a,b,c,d,a)"):
            self.refused(text)

    def test_more_than_forty_names(self):
        self.refused("f(" * 40 + "a" + ")" * 40)
        self.assertEqual(read("f(" * 39 + "a" + ")" * 39), tower(39))
        ten = "g(g(g(a,a,a),a,a),a,a)"
        many = f"f({ten},{ten},{ten})"
        self.assertEqual(names_in(read(f"f({many},h(b,b,h(b,b,b)),k)")), 40)
        self.refused(f"f({many},h(b,b,h(b,b,b)),k(k))")
        self.refused(f"f({many},h(b,b,h(b,b,b)),h(k,k,k))")
        self.refused("f(" * 700 + "a" + ")" * 700)
        self.refused("f(" * 700)
        self.refused("," * 700)

    def test_each_short_text_is_read_just_where_it_is_a_term(self):
        for many in range(9):
            for signs in itertools.product("a(),", repeat=many):
                text = "".join(signs)
                if is_term_text(text):
                    self.assertEqual(shown(read(text)), text)
                else:
                    with self.assertRaises(BadText, msg=text):
                        read(text)


class Interface(unittest.TestCase):
    def test_each_function_is_defined_in_terms(self):
        for name in ("need_term", "parts_of", "shown", "read"):
            made = getattr(terms, name)
            self.assertEqual((made.__module__, made.__name__), ("alikeboard.terms", name))


if __name__ == "__main__":
    unittest.main()
