"""Points 7 and 8: worlds, what terms are worth in them, which facts stand there."""

import copy
import itertools
import unittest

from alikeboard import worlds
from alikeboard.errors import NoFact
from alikeboard.worlds import World, world_of
from checking import Checking, reckoned
from reckoning import WORDS, can_stand, fact_lists, facts_of, stands, term_of, terms_in, tower
from test_facts import BAD_TERMS, each_bad

OUTSIDE = [term_of(text) for text in ("a", "b", "z", "f(a)", "f(z)", "f(b,a)", "f(f(f(f(a))))", "g(z,f(a),b)", "a(b)",
                                      "b(a,a)", "h(a,b,f(b))", "k", "k(k(k))")]

LISTS = (
    (),
    ("a = a",),
    ("a = b",),
    ("a != b",),
    ("a <= b",),
    ("b <= a",),
    ("a > b",),
    ("b > a",),
    ("a = b", "b = c", "c != d", "d > a"),
    ("a <= b", "f(a) > f(b)"),
    ("a > b", "b > c", "c > d", "d > e"),
    ("e > d", "d > c", "c > b", "b > a"),
    ("a <= b", "b <= c", "c <= a", "d > a", "b > e"),
    ("a <= b", "b <= a", "f(a) <= c", "c <= f(b)", "g(c,a) != d"),
    ("f(f(a)) = a", "f(f(f(f(a)))) = a", "f(a) != a"),
    ("f(f(f(a))) = a", "f(a) > a", "f(a) > f(f(a))"),
    ("f(a) != f(a,a)", "f(a,a) != f(a,a,a)", "f != f(f)", "f(f) = a"),
    ("a = b", "c = d", "f(a,c) != f(d,b)", "g(f(a,c),h(f(b,d))) > a"),
    ("a(a,b,c) = b(c,b,a)", "a(a,b,c) > c(a,c,b)"),
    ("f(a) = a", "g(f(a),f(f(a))) <= f(f(f(a)))"),
)


class Case(Checking):
    def check_answers(self, told, size, rows, terms):
        worths = {}
        for term in terms:
            worths[term] = reckoned(rows, term)
            self.assertEqual(told.worth(term), worths[term], term)
            self.assertIs(type(told.worth(term)), int)
            self.assertIn(worths[term], range(size))
        for word, first, second in itertools.product(WORDS, terms, terms):
            self.assertIs(told.holds((word, first, second)), stands(word, worths[first], worths[second]))

    def check(self, facts):
        """Look at all that the world of some facts tells, and tell that world."""
        before = copy.deepcopy(facts)
        told = world_of(facts)
        self.assertIs(type(told), World)
        self.assertEqual(facts, before)
        self.check_world(facts, told)
        self.check_answers(told, told.size(), told.rows(), (terms_in(facts) + OUTSIDE)[:16])
        return told


class Told(Case):
    def test_all_facts_of_the_list_stand(self):
        for texts in LISTS:
            orders = itertools.permutations(texts) if len(texts) < 4 else (texts, texts[::-1])
            for order in orders:
                with self.subTest(order):
                    self.check(facts_of(*order))

    def test_the_empty_list_has_a_world_of_one_number(self):
        told = self.check([])
        self.assertEqual(told.size(), 1)
        for term in OUTSIDE:
            self.assertEqual(told.worth(term), 0)
            self.assertIs(told.holds(("alike", term, ("a",))), True)
            self.assertIs(told.holds(("most", term, ("a",))), True)
            self.assertIs(told.holds(("unlike", term, ("a",))), False)
            self.assertIs(told.holds(("over", term, ("a",))), False)

    def test_terms_and_facts_that_do_not_stand_in_the_list(self):
        told = world_of(facts_of("a > b", "b > c", "f(a) > a"))
        for text in ("z", "f(b,b)", "g(a)", "a(a)", "f(z,f(a),a)"):
            self.assertEqual(told.worth(term_of(text)), 0)
        self.assertEqual(told.worth(term_of("f(z)")), reckoned(told.rows(), term_of("f(z)")))
        for text, expected in (("z = y", True), ("z != y", False), ("z <= y", True), ("z > y", False),
                               ("a > z", True), ("a <= z", False), ("z <= a", True), ("f(a) > z", True),
                               ("a != b", True), ("c > a", False), ("c <= a", True), ("f(a) > b", True)):
            self.assertIs(told.holds(facts_of(text)[0]), expected, text)

    def test_a_work_tells_its_parts_apart_by_their_order_and_count(self):
        told = self.check(facts_of("a > b", "f(a,b) > f(b,a)", "f(b,a) > f(a)", "f(a) > f(a,b,a)"))
        worths = [told.worth(term_of(text)) for text in ("f(a,b)", "f(b,a)", "f(a)", "f(a,b,a)")]
        self.assertEqual(worths, sorted(worths, reverse=True))
        self.assertEqual(len(set(worths)), 4)

    def test_many_facts_of_few_sorts(self):
        lists = (
            *fact_lists(11, 250, (3, 5, 8), ("a", "b", "c", "d")),
            *fact_lists(12, 250, (3, 5), ("a", "b", "f(a)", "f(b)", "f(f(a))")),
            *fact_lists(13, 250, (3, 5), ("a", "g(a,b)", "g(b,a)", "g(g(a,b),a)", "g(a)")),
            *fact_lists(14, 150, (12,), ("a", "b", "c", "f(a)", "f(b)", "g(a,c)"), ("most", "alike")),
        )
        for facts in lists:
            if can_stand(facts):
                self.check(facts)
            else:
                self.refused(NoFact, world_of, facts)

    def test_facts_that_cannot_stand_together_are_refused(self):
        for texts in (("a != a",), ("a > a",), ("a = b", "a != b"), ("a <= b", "a > b"), ("a > b", "b > a"),
                      ("a = b", "f(a) > f(b)"), ("a <= b", "b <= c", "c <= a", "g(a,b) != g(b,c)"),
                      ("a <= b", "b <= a", "f(a) <= c", "c <= f(b)", "c > f(a)"),
                      ("f(f(a)) = a", "f(f(f(a))) = a", "f(a) != a")):
            for order in itertools.permutations(texts):
                with self.subTest(order):
                    self.refused(NoFact, world_of, facts_of(*order))

    def test_forty_long_facts(self):
        core = ("h", tower(12), tower(12, ("b",)), tower(10, ("c",)))
        names = [first + second for first in "abcdefg" for second in "abcdef"]
        facts = [("over", (name, core), (other, core)) for name, other in itertools.pairwise(names[:41])]
        told = world_of(facts)
        self.assertTrue(all(told.holds(fact) for fact in facts))
        self.assertLessEqual(told.size(), len(terms_in(facts)))
        self.check_rows(told.size(), told.rows())


class Promised(Case):
    def test_rows_that_were_told_may_be_changed(self):
        for texts in LISTS:
            facts = facts_of(*texts)
            told = world_of(facts)
            rows, size = told.rows(), told.size()
            terms = (terms_in(facts) + OUTSIDE)[:10]
            for change in (list.clear, list.reverse, lambda xs: xs.append(("a", (), 7)), lambda xs: xs.insert(0, 1)):
                change(told.rows())
                self.assertEqual((told.rows(), told.size()), (rows, size))
                self.check_answers(told, size, rows, terms)

    def test_facts_that_were_handed_in_may_be_changed(self):
        facts = facts_of("a > b", "f(a) = b")
        told = world_of(facts)
        rows = told.rows()
        facts.clear()
        self.assertEqual(told.rows(), rows)
        self.assertIs(told.holds(("over", ("a",), ("b",))), True)

    def test_asked_again_the_same_is_told(self):
        for texts in LISTS:
            facts = facts_of(*texts)
            first, second = world_of(facts), world_of(facts)
            self.assertEqual((first.size(), first.rows()), (second.size(), second.rows()))
            self.assertEqual((first.size(), first.rows()), (first.size(), first.rows()))

    def test_one_world_does_not_change_another_one(self):
        first = world_of(facts_of("a > b"))
        rows = first.rows()
        world_of(facts_of("b > a", "f(a) = a"))
        self.assertEqual(first.rows(), rows)
        self.assertIs(first.holds(("over", ("a",), ("b",))), True)


class Refusing(unittest.TestCase):
    def test_what_is_no_fact(self):
        told = world_of(facts_of("a > b"))
        for bad, kind in each_bad():
            for ask in (lambda: told.holds(bad), lambda: world_of([bad]), lambda: world_of(facts_of("a = b") + [bad])):
                with self.assertRaises(ValueError) as caught:
                    ask()
                self.assertIs(type(caught.exception), kind)

    def test_what_is_no_term(self):
        told = world_of(facts_of("a > b"))
        for bad, _ in itertools.product(BAD_TERMS, range(2)):
            for term in (bad, ("f", bad), ("f", ("a",), bad)):
                with self.assertRaises(ValueError) as caught:
                    told.worth(term)
                self.assertEqual(type(caught.exception).__name__, "NoTerm")


class Interface(unittest.TestCase):
    def test_all_is_defined_in_worlds(self):
        for name in ("World", "world_of"):
            made = getattr(worlds, name)
            self.assertEqual((made.__module__, made.__name__), ("alikeboard.worlds", name))
        for name in ("size", "rows", "worth", "holds"):
            self.assertIn(name, vars(World))


if __name__ == "__main__":
    unittest.main()
