"""Points 5 and 6: facts, their opposites and their texts."""

import itertools
import re
import unittest

from alikeboard import facts
from alikeboard.errors import BadText, NoFact, NoTerm
from alikeboard.facts import need_fact, opposite, read_fact, shown_fact

A, B = ("a",), ("b",)
F = ("f", A, ("g", B))
SIGNS = {"alike": "=", "unlike": "!=", "most": "<=", "over": ">"}
OPPOSITES = {"alike": "unlike", "unlike": "alike", "most": "over", "over": "most"}
TEXTS = {"a": A, "b": B, "f(a,g(b))": F, "abcdef": ("abcdef",),
         "f(f,f(a),f(a,b))": ("f", ("f",), ("f", A), ("f", A, B))}

DEEP = A
for _ in range(40):
    DEEP = ("f", DEEP)

BAD_TERMS = (("",), ("A",), ("abcdefg",), ("a b",), ("f", A, A, A, A), ("f", ("g", ("1",))), DEEP)
BAD_WORDS = ("", " ", "Alike", "alike ", " alike", "ALIKE", "alik", "alikes", "not", "above", "at most", "less",
             "=", "!=", "<=", ">", "a", "f", "opposite", "unlikely", "mos", "overt", "alike\n")


def each_bad():
    """What stands for a fact and is none, with the refusal it meets."""
    for word in BAD_WORDS:
        yield (word, A, B), NoFact
    for word in (*SIGNS, *BAD_WORDS):
        yield (word,), NoFact
        yield (word, A), NoFact
        yield (word, A, B, F), NoFact
        yield (word, A, B, F, A), NoFact
    for bad in BAD_TERMS:
        for word in SIGNS:
            yield (word, bad, A), NoTerm
            yield (word, A, bad), NoTerm
            yield (word, bad, bad), NoTerm
            yield (word, bad), NoFact
            yield (word, bad, A, A), NoFact
            yield (word, A, A, bad), NoFact
        for word in BAD_WORDS:
            yield (word, bad, A), NoFact
            yield (word, A, bad), NoFact
            yield (word, bad), NoFact


class Refusing(unittest.TestCase):
    def check(self, function):
        for fact, kind in each_bad():
            with self.subTest(fact=fact):
                with self.assertRaises(ValueError) as caught:
                    function(fact)
                self.assertIs(type(caught.exception), kind)

    def test_need_fact(self):
        self.check(need_fact)

    def test_opposite(self):
        self.check(opposite)

    def test_shown_fact(self):
        self.check(shown_fact)


class NeedFact(unittest.TestCase):
    def test_facts_are_taken_and_nothing_is_told(self):
        for word in SIGNS:
            for first, second in itertools.product(TEXTS.values(), repeat=2):
                with self.subTest(word):
                    self.assertIsNone(need_fact((word, first, second)))

    def test_terms_of_forty_names_are_taken(self):
        forty = DEEP[1]
        for word in SIGNS:
            self.assertIsNone(need_fact((word, forty, forty)))


class Opposite(unittest.TestCase):
    def test_the_opposite_has_the_other_word_and_the_same_terms_in_order(self):
        for word, other in OPPOSITES.items():
            for first, second in itertools.product(TEXTS.values(), repeat=2):
                with self.subTest(word):
                    told = opposite((word, first, second))
                    self.assertEqual(told, (other, first, second))
                    self.assertIs(type(told), tuple)

    def test_the_opposite_of_the_opposite_is_the_fact(self):
        for word in SIGNS:
            self.assertEqual(opposite(opposite((word, A, F))), (word, A, F))


def tuples_throughout(term):
    return type(term) is tuple and type(term[0]) is str and all(tuples_throughout(part) for part in term[1:])


class Texts(unittest.TestCase):
    def each(self):
        for word, sign in SIGNS.items():
            for (left, first), (right, second) in itertools.product(TEXTS.items(), repeat=2):
                yield f"{left} {sign} {right}", (word, first, second)

    def test_facts_are_written(self):
        self.assertEqual(shown_fact(("alike", A, F)), "a = f(a,g(b))")
        self.assertEqual(shown_fact(("unlike", F, A)), "f(a,g(b)) != a")
        self.assertEqual(shown_fact(("most", A, B)), "a <= b")
        self.assertEqual(shown_fact(("over", B, A)), "b > a")
        for text, fact in self.each():
            self.assertEqual(shown_fact(fact), text)

    def test_texts_are_read(self):
        for text, fact in self.each():
            with self.subTest(text):
                told = read_fact(text)
                self.assertEqual(told, fact)
                self.assertEqual((type(told), len(told)), (tuple, 3))
                self.assertTrue(tuples_throughout(told[1]) and tuples_throughout(told[2]))

    def test_what_is_written_is_read_to_the_same_fact(self):
        for text, fact in self.each():
            self.assertEqual(read_fact(shown_fact(fact)), fact)
            self.assertEqual(shown_fact(read_fact(text)), text)

    def test_asked_again_the_same_is_told(self):
        for text, fact in self.each():
            self.assertEqual(read_fact(text), read_fact(text))
            self.assertEqual(shown_fact(fact), shown_fact(fact))


class BadTexts(unittest.TestCase):
    def refused(self, text):
        with self.subTest(text=text):
            with self.assertRaises(ValueError) as caught:
                read_fact(text)
            self.assertIs(type(caught.exception), BadText)

    def test_a_blank_or_a_line_feed_at_each_place(self):
        for sign in SIGNS.values():
            text = f"f(a,b) {sign} b"
            for at in range(len(text) + 1):
                for more in (" ", "\n", "  "):
                    self.refused(text[:at] + more + text[at:])

    def test_no_blank(self):
        for sign in SIGNS.values():
            for text in (f"a{sign}b", f"a {sign}b", f"a{sign} b"):
                self.refused(text)

    def test_a_line_feed_instead_of_a_blank(self):
        for sign in SIGNS.values():
            for text in (f"a\n{sign} b", f"a {sign}\nb", f"a\n{sign}\nb"):
                self.refused(text)

    def test_another_sign(self):
        for sign in ("", "==", "<", ">=", "=<", "=>", "<>", "!", "! =", "~", "=!", "=a", "alike", "unlike", "most",
                     "over", "\n", "=\n", "a", "f", "!==", ">>", "<=>"):
            self.refused(f"a {sign} b")

    def test_two_signs(self):
        for one, two in itertools.product(SIGNS.values(), repeat=2):
            for text in (f"a {one} {two} b", f"a {one}{two} b", f"a {one} b {two} a", f"a {one} b {two}"):
                self.refused(text)

    def test_one_term_or_none(self):
        for text in ("", " ", "  ", "a", "a ", " a", "f(a,b)", "a b", "a  b"):
            self.refused(text)
        for sign in SIGNS.values():
            for text in (sign, f" {sign} ", f"a {sign} ", f" {sign} b", f"a {sign}", f"{sign} b", f"{sign} a b"):
                self.refused(text)

    def test_terms_that_are_none(self):
        for sign in SIGNS.values():
            for bad in ("", "A", "a1", "abcdefg", "a()", "f(a", "f(a))", "f(a,,b)", "f(a,b,c,d)", "(a)", "a,b",
                        "f(" * 40 + "a" + ")" * 40, "f(" * 700):
                self.refused(f"{bad} {sign} a")
                self.refused(f"a {sign} {bad}")
                self.refused(f"{bad} {sign} {bad}")

    def test_each_short_text_is_read_just_where_it_is_a_fact(self):
        for many in range(8):
            for signs in itertools.product("a =!<>", repeat=many):
                text = "".join(signs)
                if re.fullmatch("a+ (=|!=|<=|>) a+", text):
                    self.assertEqual(shown_fact(read_fact(text)), text)
                else:
                    with self.assertRaises(BadText, msg=text):
                        read_fact(text)


class Interface(unittest.TestCase):
    def test_each_function_is_defined_in_facts(self):
        for name in ("need_fact", "opposite", "shown_fact", "read_fact"):
            made = getattr(facts, name)
            self.assertEqual((made.__module__, made.__name__), ("alikeboard.facts", name))


if __name__ == "__main__":
    unittest.main()
