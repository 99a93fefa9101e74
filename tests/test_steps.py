"""Point 10: the steps by which facts come of others."""

import copy
import itertools
import unittest

from alikeboard import steps
from alikeboard.closing import stand
from alikeboard.errors import NoFact, NoTerm
from alikeboard.steps import derived, refuted
from checking import Checking, good_step
from reckoning import WORDS, against, can_stand, fact_lists, facts_of, follows, term_of, tower
from test_facts import BAD_TERMS, each_bad

TERMS = ("a", "b", "c", "f(a)", "f(b)")

# Facts that can stand together, and one that follows of them all, but not where any one of them is left out.
WHOLE = (
    (("a = b",), "a = b"),
    (("a <= b",), "a <= b"),
    (("a = b",), "b = a"),
    (("a = b",), "a <= b"),
    (("a = b",), "b <= a"),
    (("a > b",), "b <= a"),
    (("f(a,b) > g(c)",), "g(c) <= f(a,b)"),
    (("a = b", "b = c"), "a = c"),
    (("b = a", "b = c"), "a = c"),
    (("b = a", "c = b"), "a = c"),
    (("a = b", "c = b"), "a = c"),
    (("a = b", "c = b", "c = d", "d = e"), "e = a"),
    (("a <= b", "b <= c"), "a <= c"),
    (("a <= b", "b <= c", "c <= d", "d <= e"), "a <= e"),
    (("a > b", "b > c"), "c <= a"),
    (("b > a", "b <= c", "d > c"), "a <= d"),
    (("a <= b", "b = c"), "a <= c"),
    (("a <= b", "c = b"), "a <= c"),
    (("b = a", "b <= c"), "a <= c"),
    (("a <= b", "b = c", "d = c", "d <= e"), "a <= e"),
    (("a <= b", "b <= a"), "a = b"),
    (("a <= b", "b <= a"), "b = a"),
    (("a <= b", "b <= c", "c <= a"), "a = b"),
    (("a <= b", "b <= c", "c <= a"), "a = c"),
    (("a <= b", "b <= c", "c <= a"), "c = b"),
    (("a <= b", "b = c", "c <= d", "d = a"), "a = b"),
    (("a <= b", "b = c", "c <= d", "a = d"), "c = d"),
    (("a = b",), "f(a) = f(b)"),
    (("a = b",), "f(b) = f(a)"),
    (("a = b",), "f(a) <= f(b)"),
    (("a = b",), "f(c,a) = f(c,b)"),
    (("a = b",), "f(a,b) = f(b,a)"),
    (("a = b",), "f(a,a) = f(b,b)"),
    (("a = b", "c = d"), "f(a,c) = f(b,d)"),
    (("a = b", "c = d"), "f(a,d) = f(b,c)"),
    (("a = b", "c = d", "e = g"), "h(a,d,e) = h(b,c,g)"),
    (("a = b", "c = d", "e = g"), "h(a,d,e) <= h(b,c,g)"),
    (("a = b",), "f(g(h(a,c)),k) = f(g(h(b,c)),k)"),
    (("f(a) = b",), "g(f(a)) = g(b)"),
    (("f(a) = b", "b = a"), "f(f(a)) = a"),
    (("f(f(a)) = a", "f(f(f(a))) = a"), "f(a) = a"),
    (("a <= b", "b <= a"), "f(a) = f(b)"),
    (("a <= b", "b <= c", "c <= a"), "g(a,c) = g(c,b)"),
    (("a <= b", "b <= a", "f(a) <= c", "c <= f(b)"), "c = f(b)"),
    (("a <= b", "b <= a", "f(a) <= c", "c <= f(b)"), "g(f(a)) = g(c)"),
    (("a <= b", "b <= a", "f(a) <= c", "c <= f(b)", "g(c,a) <= d", "d <= g(f(a),b)"), "d = g(f(b),b)"),
    (("a <= b", "b <= a", "f(a) <= c", "c <= d", "e > d", "e <= g"), "f(b) <= g"),
)
OF_NONE = ("a = a", "a <= a", "f(a) = f(a)", "f(a,b) <= f(a,b)", "f(a,g(b),b(b)) = f(a,g(b),b(b))")
BESIDE = ("p != q", "p <= r", "h(p) > h(r)", "r > s")

# Facts that can't stand together, but where any one of them is left out; the last one is unlike or over.
CLASHING = (
    ("a != a",),
    ("a > a",),
    ("f(a,b) != f(a,b)",),
    ("f(a,b) > f(a,b)",),
    ("a = b", "a != b"),
    ("b = a", "a != b"),
    ("a = b", "a > b"),
    ("b = a", "a > b"),
    ("a <= b", "a > b"),
    ("a = b", "c = b", "a != c"),
    ("a = b", "b = c", "c > a"),
    ("a <= b", "b <= c", "a > c"),
    ("a <= b", "b <= a", "a != b"),
    ("a <= b", "b <= a", "b != a"),
    ("a <= b", "b <= c", "c <= a", "b != a"),
    ("a <= b", "b = c", "c <= d", "a > d"),
    ("a = b", "f(a) != f(b)"),
    ("a = b", "f(b) > f(a)"),
    ("a = b", "c = d", "f(a,c) != f(b,d)"),
    ("a = b", "c = d", "e = g", "h(b,d,e) > h(a,c,g)"),
    ("f(f(a)) = a", "f(f(f(a))) = a", "a != f(a)"),
    ("a <= b", "b <= a", "f(a) != f(b)"),
    ("a <= b", "b <= a", "f(a) <= c", "f(b) > c"),
    ("a <= b", "b <= a", "f(a) <= c", "c <= f(b)", "c != f(a)"),
    ("a <= b", "b <= a", "f(a) <= c", "c <= f(b)", "g(c,a) <= d", "d <= g(f(a),b)", "d != g(f(b),b)"),
)


def fact_of(text):
    return facts_of(text)[0]


def orders_of(texts):
    return itertools.permutations(texts) if len(texts) < 5 else (texts, texts[::-1], texts[2:] + texts[:2])


class TheWalk(Checking):
    """The look at steps itself: which ones it takes, and that it takes no wrong ones."""

    FACTS = facts_of("a = b", "b > c", "a <= b", "b <= a")
    STEPS = [("told", (0,), fact_of("a = b")), ("told", (1,), fact_of("b > c")), ("told", (2,), fact_of("a <= b")),
             ("told", (3,), fact_of("b <= a")), ("turned", (0,), fact_of("b = a")), ("same", (), fact_of("c = c"))]

    def takes(self, word, places, text):
        return good_step(self.FACTS, [*self.STEPS, (word, places, fact_of(text))], len(self.STEPS))

    def test_good_steps_are_taken(self):
        for at in range(len(self.STEPS)):
            self.assertTrue(good_step(self.FACTS, self.STEPS, at))
        for word, places, text in (
            ("told", (1,), "b > c"), ("same", (), "f(a) = f(a)"), ("turned", (4,), "a = b"), ("both", (0,), "a <= b"),
            ("below", (1,), "c <= b"), ("ring", (2, 3), "a = b"), ("ring", (3, 2), "b = a"),
            ("through", (0, 4), "a = a"), ("through", (2, 3), "a <= a"), ("parts", (), "a = a"),
            ("parts", (0,), "f(a) = f(b)"), ("parts", (4, 0), "g(b,a) = g(a,b)"), ("parts", (0, 0), "f(a,a) = f(b,b)"),
            ("parts", (0, 5, 4), "f(a,c,b) = f(b,c,a)"),
        ):
            self.assertTrue(self.takes(word, places, text), (word, places, text))

    def test_wrong_steps_are_not_taken(self):
        for word, places, text in (
            ("told", (0,), "b > c"), ("told", (), "a = b"), ("told", (0, 1), "a = b"), ("told", (4,), "b = a"),
            ("told", (-4,), "a = b"), ("same", (), "a = b"), ("same", (0,), "a = a"), ("same", (), "a <= a"),
            ("turned", (0,), "a = b"), ("turned", (2,), "b <= a"), ("turned", (), "b = a"), ("turned", (6,), "a = a"),
            ("both", (0,), "b <= a"), ("both", (2,), "a <= b"), ("both", (1,), "b <= c"), ("below", (1,), "b <= c"),
            ("below", (2,), "b <= a"), ("ring", (2, 3), "b = a"), ("ring", (2, 2), "a = b"), ("ring", (2,), "a = b"),
            ("ring", (0, 4), "a = b"), ("through", (0, 0), "a = b"), ("through", (0, 2), "a = b"),
            ("through", (4, 2), "b <= b"), ("through", (0,), "a = b"), ("through", (1, 1), "b > c"),
            ("parts", (), "a = b"), ("parts", (0,), "f(a) = g(b)"), ("parts", (0,), "f(b) = f(a)"),
            ("parts", (0,), "f(a,a) = f(b,b)"), ("parts", (0, 4), "g(b,a) = g(a,b)"), ("parts", (0,), "f(a) <= f(b)"),
            ("parts", (0,), "f(a) = f(b,c)"), ("parts", (0, 0), "f(a) = f(b)"), ("parts", (2,), "f(a) = f(b)"),
            ("above", (0,), "a = b"), ("", (), "a = a"), ("parts", (-2,), "f(b) = f(a)"),
        ):
            self.assertFalse(self.takes(word, places, text), (word, places, text))


class Derived(Checking):
    def derives(self, facts, fact):
        self.check_derived(facts, fact, derived(facts, fact))

    def test_facts_that_are_told(self):
        facts = facts_of("a = b", "c <= f(a)", "a = b", "f(a,b) = c", "b > d", "a <= a", "c = c", "p != q", "b <= a")
        for order in (facts, facts[::-1], facts[4:] + facts[:4]):
            for fact in facts:
                if fact[0] in ("alike", "most"):
                    self.derives(order, fact)

    def test_what_follows_of_none_at_all(self):
        for facts in ([], facts_of("a = b"), facts_of("b > a", "f(a,b) <= a"), facts_of("a != b", "a = a", "a <= a")):
            for text in OF_NONE:
                self.derives(facts, fact_of(text))

    def test_what_follows_of_all_facts(self):
        for texts, text in WHOLE:
            # The reckoning takes long for more facts; of those, test_whys speaks.
            if len(texts) < 5:
                self.assertTrue(follows(facts_of(*texts), fact_of(text)))
            for order in orders_of(texts):
                with self.subTest(order, asked=text):
                    self.derives(facts_of(*order), fact_of(text))

    def test_facts_beside_it_that_it_does_not_want(self):
        for texts, text in WHOLE:
            for mixed in ((*BESIDE, *texts), (*texts, *BESIDE), (*BESIDE[:2], *texts[::-1], *BESIDE[2:])):
                self.derives(facts_of(*mixed), fact_of(text))

    def test_none_where_one_is_left_out(self):
        for texts, text in WHOLE:
            for place in range(len(texts)):
                rest = facts_of(*texts[:place], *texts[place + 1:])
                self.assertIsNone(derived(rest, fact_of(text)))
                self.assertIsNone(derived(rest + facts_of(*BESIDE), fact_of(text)))

    def test_none_where_it_does_not_follow(self):
        for texts, text in (((), "a = b"), ((), "a <= b"), ((), "f(a) = f(b)"), ((), "f(a) = f(a,a)"),
                            (("a <= b",), "b <= a"), (("a <= b",), "a = b"), (("a <= b",), "f(a) <= f(b)"),
                            (("a > b",), "a <= b"), (("a > b",), "a = b"), (("a != b",), "a = b"),
                            (("a != b",), "a <= b"), (("a = b",), "f(a) = g(b)"), (("a = b",), "f(a) = f(a,b)"),
                            (("a = b",), "f(a,c) = f(c,b)"), (("f(a) = f(b)",), "a = b"),
                            (("a <= b", "c <= b"), "a = c"), (("a <= b", "a <= c"), "b = c"),
                            (("f(f(a)) = a", "f(f(f(f(a)))) = a"), "f(a) = a"), (("a > b", "b > c"), "a <= c")):
            self.assertIsNone(derived(facts_of(*texts), fact_of(text)), (texts, text))

    def test_all_that_can_be_asked_of_a_few_facts(self):
        terms = [term_of(text) for text in ("a", "b", "f(a)", "f(b)", "f(f(a))", "g(a,b)")]
        for texts in (("a <= b", "b <= a", "f(b) > b"), ("f(a) != f(b)", "a <= b"), ("f(a) = b", "f(b) = a", "a > c"),
                      ("f(f(a)) <= a", "a <= f(a)", "f(a) <= b", "b <= f(f(a))"), ("g(a,b) = a", "f(a) = b", "b <= a")):
            facts = facts_of(*texts)
            for word, first, second in itertools.product(("alike", "most"), terms, terms):
                if follows(facts, (word, first, second)):
                    self.derives(facts, (word, first, second))
                else:
                    self.assertIsNone(derived(facts, (word, first, second)))

    def test_many_facts_of_few_sorts(self):
        lists = [
            *fact_lists(41, 500, (2, 4, 6), ("a", "b", "c", "d")),
            *fact_lists(42, 500, (3, 5), TERMS),
            *fact_lists(43, 300, (3, 5), ("a", "b", "g(a,b)", "g(b,a)", "g(a,a)"), ("alike", "most", "most", "over")),
        ]
        asked = fact_lists(44, len(lists), (1,), TERMS, ("alike", "most"))
        answers = []
        for facts, (fact,) in zip(lists, asked):
            if can_stand(facts):
                found = derived(facts, fact)
                self.assertEqual(found is not None, follows(facts, fact))
                if found is not None:
                    self.check_derived(facts, fact, found)
                answers.append(found is not None)
        # Both answers are common among these, so that neither is left untried.
        self.assertGreater(answers.count(True), len(answers) // 20)
        self.assertGreater(answers.count(False), len(answers) // 20)

    def test_terms_of_forty_names(self):
        facts = [("alike", ("a",), ("b",)), ("alike", tower(39, ("b",)), ("c",))]
        self.derives(facts, ("alike", tower(39), tower(39, ("b",))))
        self.derives(facts, ("most", tower(39), ("c",)))
        self.assertIsNone(derived(facts, ("alike", tower(39), tower(38))))

    def test_unlike_and_over_are_refused_with_no_fact(self):
        for facts in ([], facts_of("a != b", "a > b"), facts_of("a = b", "b <= c"), facts_of("a != b") * 41):
            for word in ("unlike", "over"):
                for text in ("a = b", "a = a", "b = c", "f(a) = g(b)", "p = q"):
                    _, first, second = fact_of(text)
                    self.refused(NoFact, derived, facts, (word, first, second))

    def test_what_is_no_fact_is_refused(self):
        good = fact_of("a = b")
        for bad, kind in each_bad():
            if kind is NoFact or bad[0] in ("alike", "most"):
                self.refused(kind, derived, [], bad)
                self.refused(kind, derived, [good], bad)
            self.refused(kind, derived, [bad], good)
            self.refused(kind, derived, [good, bad], good)
        for bad in BAD_TERMS:
            self.refused(NoTerm, derived, [good], ("alike", bad, ("a",)))
            self.refused(NoTerm, derived, [good], ("most", ("a",), bad))


class Refuted(Checking):
    def refutes(self, facts):
        return self.check_refuted(facts, refuted(facts))

    def test_the_last_fact_is_forbidden_by_the_others(self):
        for texts in CLASHING:
            self.assertFalse(can_stand(facts_of(*texts)))
            with self.subTest(texts):
                self.assertEqual(self.refutes(facts_of(*texts)), len(texts) - 1)

    def test_in_each_order(self):
        for texts in CLASHING:
            for order in orders_of(texts):
                self.assertEqual(self.refutes(facts_of(*order)), order.index(texts[-1]))

    def test_facts_beside_it(self):
        for texts in CLASHING:
            for mixed in ((*BESIDE, *texts), (*texts, *BESIDE), (*BESIDE[:2], *texts[::-1], *BESIDE[2:])):
                self.assertEqual(self.refutes(facts_of(*mixed)), mixed.index(texts[-1]))

    def test_several_facts_that_are_forbidden(self):
        for texts in (("a > b", "b > a"), ("a > b", "b > c", "c > a"), ("a = b", "a != b", "b > a"),
                      ("a != a", "b > b"), ("a <= b", "c > b", "a > c", "a != c"), ("a = b", "f(a) != f(b)", "b != a"),
                      ("f(a) > f(b)", "a > b", "a = b", "b != a")):
            for order in itertools.permutations(texts):
                self.refutes(facts_of(*order))

    def test_none_where_one_is_left_out(self):
        for texts in CLASHING:
            for place in range(len(texts)):
                rest = texts[:place] + texts[place + 1:]
                self.assertIsNone(refuted(facts_of(*rest)))
                self.assertIsNone(refuted(facts_of(*BESIDE, *rest)))

    def test_none_where_facts_can_stand_together(self):
        self.assertIsNone(refuted([]))
        for texts in (("a = a",), ("a <= a",), ("a = b",), ("a != b",), ("a > b",), ("a <= b", "b <= a"),
                      ("a != b", "b != c", "a = c"), ("a <= b", "f(a) > f(b)"), ("f(a) = f(b)", "a > b"),
                      ("f(f(a)) = a", "f(f(f(f(a)))) = a", "f(a) != a"), ("a = b", "f(a) != f(b,b)")):
            self.assertIsNone(refuted(facts_of(*texts)))

    def test_many_facts_of_few_sorts(self):
        lists = [
            *fact_lists(51, 500, (2, 3, 5), ("a", "b", "c", "d")),
            *fact_lists(52, 500, (3, 5), TERMS),
            *fact_lists(53, 300, (4, 6), TERMS, ("alike", "most", "most", "over")),
        ]
        answers = []
        for facts in lists:
            told = refuted(facts)
            answers.append(told is None)
            self.assertIs(told is None, can_stand(facts))
            if told is not None:
                self.check_refuted(facts, told)
        self.assertGreater(answers.count(True), len(answers) // 20)
        self.assertGreater(answers.count(False), len(answers) // 20)

    def test_what_is_derived_forbids_its_opposite(self):
        for texts, text in WHOLE:
            facts = facts_of(*texts, *BESIDE)
            self.refutes([*facts, against(fact_of(text))])
            self.refutes([against(fact_of(text)), *facts])

    def test_what_is_no_fact_is_refused(self):
        good = fact_of("a = b")
        for bad, kind in each_bad():
            for facts in ([bad], [good, bad], [bad, good], facts_of("a != a") + [bad]):
                self.refused(kind, refuted, facts)


class Promised(Checking):
    def test_facts_are_as_they_were_and_asked_again_the_same_is_told(self):
        for texts, text in WHOLE:
            facts, fact = facts_of(*texts, *BESIDE), fact_of(text)
            before = copy.deepcopy((facts, fact))
            self.assertEqual(derived(facts, fact), derived(facts, fact))
            clashing = [*facts, against(fact)]
            self.assertEqual(refuted(clashing), refuted(clashing))
            self.assertEqual((facts, fact), before)
            self.assertEqual(clashing, [*facts, against(fact)])

    def test_steps_that_were_told_may_be_changed(self):
        for texts, text in WHOLE:
            facts, fact = facts_of(*texts), fact_of(text)
            clashing = [*facts, against(fact)]
            first, second = copy.deepcopy((derived(facts, fact), refuted(clashing)))
            for change in (list.clear, list.reverse, lambda rows: rows.append(("same", (), fact_of("a = a")))):
                change(derived(facts, fact))
                change(refuted(clashing)[0])
                self.assertEqual((derived(facts, fact), refuted(clashing)), (first, second))

    def test_facts_that_were_handed_in_may_be_changed(self):
        facts = facts_of("a <= b", "b <= a")
        told = derived(facts, fact_of("f(a) = f(b)"))
        before = copy.deepcopy(told)
        facts.clear()
        self.assertEqual(told, before)

    def test_refuted_goes_by_stand(self):
        for facts in fact_lists(54, 300, (3, 5), ("a", "b", "f(a)", "g(a,b)"), WORDS):
            self.assertIs(refuted(facts) is None, stand(facts))

    def test_each_function_is_defined_in_steps(self):
        for name in ("derived", "refuted"):
            made = getattr(steps, name)
            self.assertEqual((made.__module__, made.__name__), ("alikeboard.steps", name))


if __name__ == "__main__":
    unittest.main()
