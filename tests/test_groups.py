"""Point 13: the groups of a board, and the terms that are alike one."""

import itertools
import unittest

from alikeboard.board import Board
from alikeboard.errors import NoTerm
from alikeboard.terms import shown
from checking import Checking, is_term
from reckoning import can_stand, fact_lists, facts_of, follows, term_of, terms_in, tower
from test_board import board_of
from test_terms import NO_TERMS, wrapped

# Facts, and their groups by texts.
GROUPS = (
    ((), []),
    (("a = a",), [["a"]]),
    (("a = b",), [["a", "b"]]),
    (("b = a",), [["a", "b"]]),
    (("a != b",), [["a"], ["b"]]),
    (("b > a",), [["a"], ["b"]]),
    (("b <= a",), [["a"], ["b"]]),
    (("b <= a", "a <= b"), [["a", "b"]]),
    (("c = b", "b <= a", "d > c"), [["a"], ["b", "c"], ["d"]]),
    (("f(a) = b",), [["a"], ["b", "f(a)"]]),
    (("f(b) = a",), [["a", "f(b)"], ["b"]]),
    (("f(b) = a", "a = b"), [["a", "b", "f(b)"]]),
    (("g(a,b) != g(b,a)",), [["a"], ["b"], ["g(a,b)"], ["g(b,a)"]]),
    (("g(a,b) <= g(b,a)", "b = a"), [["a", "b"], ["g(a,b)", "g(b,a)"]]),
    (("f(f(c)) != z", "c = b", "f(b) = d"), [["b", "c"], ["d", "f(b)", "f(c)"], ["f(f(c))"], ["z"]]),
    (("h(a,k(b),c) > a", "b = k(b)"), [["a"], ["b", "k(b)"], ["c"], ["h(a,k(b),c)"]]),
    (("f(a) = f(a,a)", "f = a"), [["a", "f"], ["f(a)", "f(a,a)"]]),
    (("f(f(a)) = a", "f(f(f(f(a)))) = f(f(f(a)))"),
     [["a", "f(a)", "f(f(a))", "f(f(f(a)))", "f(f(f(f(a))))"]]),
    (("z = aa", "a = ab", "b = ba", "f(a) = g(a)", "fa = ga"),
     [["a", "ab"], ["aa", "z"], ["b", "ba"], ["f(a)", "g(a)"], ["fa", "ga"]]),
    (("g(a) = g", "gg = g(a,a)", "g(gg) = g(a(a))"),
     [["a"], ["a(a)"], ["g", "g(a)"], ["g(a(a))", "g(gg)"], ["g(a,a)", "gg"]]),
)


def by_texts(lists):
    return [[term_of(text) for text in texts] for texts in lists]


def told_in_order(facts):
    made = Board()
    for fact in facts:
        made.tell(fact)
    return made


class Groups(Checking):
    def check_form(self, groups):
        self.assertIs(type(groups), list)
        for group in groups:
            self.assertIs(type(group), list)
            self.assertTrue(group)
            self.assertTrue(all(is_term(term) for term in group))
            texts = [shown(term) for term in group]
            self.assertEqual(texts, sorted(texts))
        firsts = [shown(group[0]) for group in groups]
        self.assertEqual(firsts, sorted(firsts))

    def test_the_empty_board_has_none(self):
        self.assertEqual(Board().groups(), [])

    def test_groups_of_some_facts_in_each_order(self):
        for texts, lists in GROUPS:
            orders = itertools.permutations(texts) if len(texts) < 5 else (texts, texts[::-1])
            for order in orders:
                with self.subTest(order):
                    groups = board_of(*order).groups()
                    self.assertEqual(groups, by_texts(lists))
                    self.check_form(groups)

    def test_terms_that_stand_only_as_parts(self):
        made = Board()
        made.tell(("unlike", ("g", tower(3), ("h", ("b",), ("c",))), ("z",)))
        texts = ["a", "b", "c", "f(a)", "f(f(a))", "f(f(f(a)))", "g(f(f(f(a))),h(b,c))", "h(b,c)", "z"]
        self.assertEqual(made.groups(), by_texts([[text] for text in texts]))

    def test_each_term_once_and_alike_ones_together(self):
        lists = [
            *fact_lists(81, 150, (2, 4, 6), ("a", "b", "c", "d"), ("alike", "most", "most", "over")),
            *fact_lists(82, 150, (3, 4), ("c", "b", "f(a)", "f(b)", "f(f(a))"), ("alike", "most", "most", "unlike")),
            *fact_lists(83, 80, (3, 4), ("b", "a", "g(a,b)", "g(b,a)", "f(g(a,a))"), ("alike", "most", "over")),
        ]
        for facts in lists:
            if can_stand(facts):
                groups = told_in_order(facts).groups()
                self.check_form(groups)
                told = [term for group in groups for term in group]
                self.assertEqual(sorted(map(shown, told)), sorted(map(shown, terms_in(facts))))
                place = {term: at for at, group in enumerate(groups) for term in group}
                for first, second in itertools.combinations(told, 2):
                    self.assertEqual(place[first] == place[second], follows(facts, ("alike", first, second)))


class AlikeTo(Checking):
    def check(self, texts, term, expected):
        made = board_of(*texts)
        self.assertEqual(made.alike_to(term_of(term)), [term_of(text) for text in expected], (texts, term))
        self.assertIs(type(made.alike_to(term_of(term))), list)

    def test_a_term_that_stands_in_told_facts(self):
        for texts, lists in GROUPS:
            for group in lists:
                for text in group:
                    self.check(texts, text, group)

    def test_the_empty_board(self):
        for text in ("a", "f(a)", "f(a,g(b,b))"):
            self.check((), text, [text])

    def test_a_term_that_has_nothing_to_do_with_them(self):
        for texts, _ in GROUPS:
            for text in ("q", "q(q)", "q(a)", "q(f(a),b)", "f(q)", "h(h,h(h))"):
                self.check(texts, text, [text])

    def test_a_term_that_does_not_stand_there_but_its_parts_do(self):
        self.check(("f(a) = c", "a = b"), "f(b)", ["c", "f(a)", "f(b)"])
        self.check(("f(a) = c", "a = b"), "f(c)", ["f(c)"])
        self.check(("f(a) = z", "a = b"), "f(b)", ["f(a)", "f(b)", "z"])
        self.check(("g(a,c) = d", "a = b", "c <= e", "e <= c"), "g(b,e)", ["d", "g(a,c)", "g(b,e)"])
        self.check(("g(a,c) = d", "a = b", "c <= e"), "g(b,e)", ["g(b,e)"])
        self.check(("a != b", "f(a) > c"), "f(b)", ["f(b)"])
        self.check(("f(a) = f(a,a)", "a = b"), "f(b,b)", ["f(a)", "f(a,a)", "f(b,b)"])
        self.check(("f(f(a)) = c", "a = f(b)", "b = a"), "f(b)", ["a", "b", "c", "f(a)", "f(b)", "f(f(a))"])

    def test_a_term_that_does_not_stand_there_comes_in_its_place_by_its_text(self):
        self.check(("f(m) = z", "f(m) = a", "m = b", "m = y"), "f(b)", ["a", "f(b)", "f(m)", "z"])
        self.check(("f(m) = z", "f(m) = a", "m = b", "m = y"), "f(y)", ["a", "f(m)", "f(y)", "z"])
        self.check(("f(m) = g", "m = b"), "f(b)", ["f(b)", "f(m)", "g"])

    def test_parts_of_the_term_that_stand_in_no_fact_are_not_told(self):
        self.check(("f(a) = a",), "f(f(f(a)))", ["a", "f(a)", "f(f(f(a)))"])
        self.check(("f(a) = a",), "f(f(a))", ["a", "f(a)", "f(f(a))"])
        self.check(("a = f(a)", "a = b"), "f(f(f(f(b))))", ["a", "b", "f(a)", "f(f(f(f(b))))"])
        self.check(("g(a,a) = a",), "g(g(a,g(a,a)),g(g(a,a),g(a,a)))",
                   ["a", "g(a,a)", "g(g(a,g(a,a)),g(g(a,a),g(a,a)))"])
        self.check((), "f(f(f))", ["f(f(f))"])

    def test_what_is_asked_is_not_told_by_that(self):
        made = board_of("f(a) = a")
        for text in ("f(f(a))", "q(a)", "f(f(f(a)))"):
            made.alike_to(term_of(text))
            self.assertEqual(made.groups(), by_texts([["a", "f(a)"]]))
            self.assertEqual(made.facts(), facts_of("f(a) = a"))
            self.assertEqual(made.alike_to(term_of("a")), [term_of("a"), term_of("f(a)")])

    def test_just_those_that_follow_to_be_alike(self):
        texts = ("a", "f(b)", "f(f(a))", "f(f(b))", "q", "f(q)")
        words = ("alike", "most", "most", "unlike")
        for facts in fact_lists(84, 120, (3, 4), ("a", "b", "f(a)", "f(b)", "c"), words):
            if can_stand(facts):
                made = told_in_order(facts)
                for term in map(term_of, texts):
                    alike = [other for other in terms_in(facts) if follows(facts, ("alike", term, other))]
                    expected = sorted({shown(other) for other in [*alike, term]})
                    self.assertEqual([shown(other) for other in made.alike_to(term)], expected)

    def test_what_is_no_term_is_refused(self):
        for made in (Board(), board_of("a = b", "f(a) = c")):
            for inner in NO_TERMS:
                for term in wrapped(inner):
                    self.refused(NoTerm, made.alike_to, term)
            self.refused(NoTerm, made.alike_to, tower(40))
            self.assertEqual(made.alike_to(tower(39)), [tower(39)])


if __name__ == "__main__":
    unittest.main()
