"""Points 7 and 8 as stand answers them: which facts can stand together."""

import copy
import itertools
import unittest

from alikeboard import closing
from alikeboard.closing import stand
from reckoning import WORDS, against, can_stand, fact_lists, facts_of, term_of, terms_in, tower
from test_facts import each_bad


class Case(unittest.TestCase):
    def standing(self, *texts):
        """Facts that can stand together, in each order of up to five of them."""
        self.in_each_order(texts, True)

    def clashing(self, *texts):
        """Facts that can't stand together, in each order, but can where any one of them is left out."""
        self.in_each_order(texts, False)
        for place in range(len(texts)):
            self.in_each_order(texts[:place] + texts[place + 1:], True)

    def in_each_order(self, texts, expected):
        orders = itertools.permutations(texts) if len(texts) < 6 else (texts, texts[::-1])
        for order in orders:
            with self.subTest(order):
                self.assertIs(stand(facts_of(*order)), expected)


class OneOrTwo(Case):
    def test_no_facts_can_stand(self):
        self.assertIs(stand([]), True)

    def test_a_fact_of_each_word_alone_can_stand(self):
        for sign in ("=", "!=", "<=", ">"):
            for first, second in (("a", "b"), ("b", "a"), ("a", "f(a)"), ("f(a)", "a"), ("f(a,b)", "f(b,a)")):
                self.standing(f"{first} {sign} {second}")

    def test_a_fact_of_one_term_twice(self):
        for term in ("a", "f(a)", "f(a,g(b),a)"):
            self.standing(f"{term} = {term}")
            self.standing(f"{term} <= {term}")
            self.clashing(f"{term} != {term}")
            self.clashing(f"{term} > {term}")

    def test_a_fact_beside_its_opposite(self):
        for first, second in (("a", "b"), ("b", "a"), ("a", "f(a)"), ("f(a)", "a"), ("f(a,b)", "f(b,a)")):
            self.clashing(f"{first} = {second}", f"{first} != {second}")
            self.clashing(f"{first} <= {second}", f"{first} > {second}")

    def test_a_fact_told_again_can_stand(self):
        for sign in ("=", "!=", "<=", ">"):
            self.standing(f"a {sign} b", f"a {sign} b", f"a {sign} b")

    def test_above_against_one_more_fact(self):
        self.clashing("a > b", "a <= b")
        self.clashing("a > b", "b > a")
        self.clashing("a > b", "a = b")
        self.clashing("a > b", "b = a")
        self.standing("a > b", "b <= a")
        self.standing("a > b", "a != b")
        self.standing("a > b", "b != a")

    def test_at_most_against_one_more_fact(self):
        self.standing("a <= b", "b <= a")
        self.standing("a <= b", "a = b")
        self.standing("a <= b", "a != b")
        self.standing("a <= b", "b != a")
        self.standing("a <= b", "b > a")


class Likenesses(Case):
    def test_likenesses_in_a_row(self):
        self.clashing("a = b", "b = c", "a != c")
        self.clashing("a = b", "b = c", "c != a")
        self.clashing("b = a", "b = c", "a != c")
        self.clashing("a = b", "c = b", "a > c")
        self.clashing("b = a", "c = b", "c > a")
        self.clashing("a = b", "c = d", "d = b", "a != c")
        self.standing("a = b", "b = c", "a <= c", "c <= a")
        self.standing("a = b", "c = d", "a != c", "b > d")

    def test_unlikeness_is_not_handed_on(self):
        self.standing("a != b", "b != c", "a = c")
        self.standing("a != b", "b != c", "a != c")

    def test_a_long_row(self):
        rows = [("alike", (first,), (second,)) for first, second in zip("abcdefghijklmnopqr", "bcdefghijklmnopqrs")]
        self.assertIs(stand(rows), True)
        for word in ("unlike", "over"):
            self.assertIs(stand([*rows, (word, ("a",), ("s",))]), False)
            self.assertIs(stand([(word, ("s",), ("a",)), *rows]), False)
            self.assertIs(stand([*rows, (word, ("s",), ("t",))]), True)
            for place in range(len(rows)):
                self.assertIs(stand([*rows[:place], *rows[place + 1:], (word, ("a",), ("s",))]), True)


class Parts(Case):
    def test_works_of_like_parts_are_alike(self):
        self.clashing("a = b", "f(a) != f(b)")
        self.clashing("a = b", "f(b) != f(a)")
        self.clashing("a = b", "f(a) > f(b)")
        self.clashing("a = b", "f(b) > f(a)")
        self.clashing("a = b", "f(a,c) != f(b,c)")
        self.clashing("a = b", "f(c,a) != f(c,b)")
        self.clashing("a = b", "c = d", "f(a,c) != f(b,d)")
        self.clashing("a = b", "c = d", "f(a,d) > f(b,c)")
        self.clashing("a = b", "f(a,a,b) != f(b,b,b)")
        self.clashing("a = b", "c = d", "e = g", "f(a,c,e) != f(b,d,g)")
        self.clashing("a = b", "f(a,b) != f(b,a)")

    def test_deep_within(self):
        self.clashing("a = b", "f(g(h(a))) != f(g(h(b)))")
        self.clashing("a = b", "f(c,g(d,h(a,c))) > f(c,g(d,h(b,c)))")
        self.clashing("a = b", "f(g(a),h(b)) != f(g(b),h(a))")
        self.clashing("a = b", "b = c", "f(f(f(f(a)))) != f(f(f(f(c))))")
        self.assertIs(stand([("alike", ("a",), ("b",)), ("unlike", tower(39), tower(39, ("b",)))]), False)
        self.assertIs(stand([("alike", ("a",), ("b",)), ("unlike", tower(39), tower(38, ("b",)))]), True)

    def test_a_likeness_of_works_goes_on_upwards(self):
        self.clashing("f(a) = b", "g(f(a)) != g(b)")
        self.clashing("f(a) = b", "f(b) = c", "f(f(a)) != c")
        self.clashing("a = b", "f(a) = c", "f(b) != c")
        self.clashing("a = b", "f(a) = c", "f(b) = d", "c != d")
        self.clashing("a = b", "f(a) = c", "f(b) = d", "g(c) > g(d)")

    def test_a_likeness_of_works_says_nothing_of_their_parts(self):
        self.standing("f(a) = f(b)", "a != b")
        self.standing("f(a,b) = f(b,a)", "a > b")
        self.standing("f(a) = g(a)", "a != b", "f(b) != g(b)")

    def test_other_places_are_other_parts(self):
        self.standing("a = b", "f(a,c) != f(c,b)")
        self.standing("a = b", "c = d", "f(a,c) != f(d,b)")
        self.standing("f(a,b) != f(b,a)")

    def test_the_same_name_with_another_count_of_parts_is_another_work(self):
        self.standing("f(a) != f(a,a)")
        self.standing("f(a,a) != f(a,a,a)")
        self.standing("f != f(f)")
        self.standing("a = b", "f(a) != f(b,b)")
        self.standing("a = b", "f = a", "f(a) != f(a,b)", "f != f(b)")
        self.clashing("f = a", "f(f) != f(a)")

    def test_other_names_are_other_works(self):
        self.standing("a = b", "f(a) != g(b)")
        self.standing("a = b", "f(a) > ff(b)")

    def test_one_work_over_and_over(self):
        self.clashing("f(f(a)) = a", "f(f(f(a))) = a", "f(a) != a")
        self.clashing("f(f(a)) = a", "f(f(f(a))) = a", "g(f(a)) != g(a)")
        self.clashing("f(a) = a", "f(f(f(f(a)))) != a")
        self.standing("f(f(a)) = a", "f(f(f(f(a)))) = a", "f(a) != a")
        rows = [("alike", tower(39), ("a",)), ("alike", tower(38), ("a",)), ("unlike", tower(1), ("a",))]
        self.assertIs(stand(rows), False)
        rows = [("alike", tower(39), ("a",)), ("alike", tower(36), ("a",)), ("unlike", tower(1), ("a",))]
        self.assertIs(stand(rows), True)
        self.assertIs(stand([*rows, ("over", tower(3), ("a",))]), False)

    def test_a_term_that_stands_only_as_a_part(self):
        self.clashing("f(a) = b", "g(f(a)) > g(b)")
        self.clashing("a = b", "b = c", "g(h(a)) != g(h(c))")
        self.clashing("f(g(a)) = a", "a = b", "f(g(b)) != a")
        self.standing("f(g(a)) != f(g(b))", "f(a) != f(b)")


class AtMosts(Case):
    def test_a_ring_makes_alike(self):
        for last in ("a != b", "b != a", "a != c", "c != b", "a > b", "b > a", "a > c", "c > a", "c > b"):
            texts = ("a <= b", "b <= c", "c <= a", last)
            self.in_each_order(texts, False)
        self.clashing("a <= b", "b <= c", "c <= a", "a != b")
        self.clashing("a <= b", "b <= c", "c <= a", "a != c")
        self.clashing("a <= b", "b <= a", "a != b")
        self.standing("a <= b", "b <= c", "c <= a", "a = c")

    def test_a_row_makes_nothing_alike(self):
        self.standing("a <= b", "b <= c", "a != c", "a != b", "b != c")
        self.standing("a <= b", "b <= c", "c > a")
        self.standing("b <= a", "b <= c", "a > c")
        self.standing("a <= b", "c <= b", "c > a")

    def test_at_most_is_handed_on(self):
        self.clashing("a <= b", "b <= c", "a > c")
        self.clashing("a <= b", "b <= c", "c <= d", "a > d")
        self.clashing("a > b", "b > c", "a <= c")
        self.clashing("a > b", "b > c", "c > a")
        self.clashing("a > b", "b > c", "d <= c", "d > a")
        self.standing("a > b", "b > c", "c <= d", "d > a")
        self.clashing("a > b", "b > c", "d <= c", "a <= d")

    def test_above_in_a_ring_with_at_mosts(self):
        self.clashing("a > b", "a <= c", "c <= b")
        self.clashing("a > b", "c > a", "c <= b")
        self.standing("a > b", "b <= c", "c <= a")

    def test_at_most_through_likenesses(self):
        self.clashing("a <= b", "b = c", "a > c")
        self.clashing("a <= b", "c = b", "c <= d", "d = a", "a != b")
        self.clashing("a = b", "b <= c", "c = d", "d <= e", "a > e")
        self.clashing("a = b", "c > a", "c <= b")
        self.clashing("a = b", "f(a) <= c", "c <= f(b)", "c != f(a)")

    def test_any_two_terms_stand_one_way_or_the_other(self):
        self.clashing("a > b", "b > a")
        self.clashing("a != b", "a <= b", "b <= a")

    def test_works_need_not_rise(self):
        self.standing("a <= b", "f(a) > f(b)")
        self.standing("a > b", "f(a) <= f(b)", "g(a) = g(b)")
        self.standing("a > f(a)", "f(a) > f(f(a))", "f(f(f(a))) > a")

    def test_what_rings_make_alike_closes_further_rings(self):
        self.clashing("a <= b", "b <= a", "f(a) != f(b)")
        self.clashing("a <= b", "b <= a", "f(a) <= c", "c <= f(b)", "c != f(a)")
        texts = ("a <= b", "b <= a", "f(a) <= c", "c <= f(b)", "g(c,a) <= d", "d <= g(f(a),b)", "d != g(f(b),b)")
        for shift in range(len(texts)):
            self.clashing(*texts[shift:], *texts[:shift])
        self.clashing(*texts[:4], texts[5], "d > g(c,b)")

    def test_a_long_row_of_rings(self):
        rows = [("most", ("a",), ("b",)), ("most", ("b",), ("a",))]
        for height in range(15):
            low, high = ("g", tower(height)), ("g", tower(height, ("b",)))
            core, other = tower(height + 1), tower(height + 1, ("b",))
            rows += [("most", low, core), ("most", core, high)]
            rows += [("most", high, other), ("most", other, low)]
        goal = ("unlike", ("g", tower(14)), tower(15, ("b",)))
        for facts in (rows, rows[::-1]):
            self.assertIs(stand(facts), True)
            self.assertIs(stand([*facts, goal]), False)
            self.assertIs(stand([goal, *facts]), False)

    def test_as_many_numbers_as_are_wanted(self):
        letters = "abcdefghijklmnopqrstuvwxyz"
        falling = [("over", (first,), (second,)) for first, second in itertools.pairwise(letters)]
        unlike = [("unlike", (first,), (second,)) for first, second in itertools.combinations(letters, 2)]
        self.assertIs(stand(falling), True)
        self.assertIs(stand(unlike), True)
        self.assertIs(stand([*falling, *unlike]), True)
        self.assertIs(stand([*falling, ("over", ("z",), ("a",))]), False)


class ByTheReckoning(unittest.TestCase):
    def compare(self, facts):
        self.assertIs(stand(facts), can_stand(facts), facts)

    def test_all_pairs_of_facts(self):
        terms = [term_of(text) for text in ("a", "b", "f(a)", "f(b)", "f(a,b)")]
        facts = [(word, first, second) for word in WORDS for first in terms for second in terms]
        for pair in itertools.combinations_with_replacement(facts, 2):
            self.compare(list(pair))

    def test_lists_of_facts_without_parts(self):
        for facts in fact_lists(1, 1500, (3, 4, 5, 6), ("a", "b", "c", "d")):
            self.compare(facts)

    def test_lists_of_facts_with_parts(self):
        for facts in fact_lists(2, 1000, (3, 4, 5), ("a", "b", "f(a)", "f(b)", "f(f(a))")):
            self.compare(facts)
        for facts in fact_lists(3, 700, (3, 4, 5), ("a", "b", "f(a,b)", "f(b,a)", "f(a,a)", "f(a)")):
            self.compare(facts)

    def test_lists_of_likenesses_and_at_mosts_with_one_against_them(self):
        texts = ("a", "b", "c", "f(a)", "f(b)", "f(c)")
        lists = list(fact_lists(4, 600, (4, 5, 6), texts, ("alike", "most", "most", "most")))
        ends = fact_lists(5, 600, (1,), texts, ("unlike", "over"))
        answers = []
        for facts, end in zip(lists, ends):
            self.compare(facts + end)
            answers.append(stand(facts + end))
        # Both answers are common among these, so that neither is left untried.
        self.assertGreater(answers.count(True), 60)
        self.assertGreater(answers.count(False), 60)

    def test_of_any_facts_that_stand_one_or_the_other_can_be_told(self):
        for facts in fact_lists(6, 300, (4,), ("a", "b", "f(a)", "g(a,b)")):
            terms = terms_in(facts)
            if stand(facts):
                for word, first, second in itertools.product(WORDS, terms, terms):
                    fact = (word, first, second)
                    self.assertTrue(stand([*facts, fact]) or stand([*facts, against(fact)]))


class Promised(unittest.TestCase):
    def test_the_facts_are_as_they_were_and_asked_again_the_same_is_told(self):
        for facts in fact_lists(7, 100, (0, 1, 4), ("a", "b", "f(a)", "g(a,b)")):
            before = copy.deepcopy(facts)
            self.assertEqual(stand(facts), stand(facts))
            self.assertEqual(facts, before)

    def test_what_is_no_fact_is_refused(self):
        for bad, kind in each_bad():
            for facts in ([bad], facts_of("a = b", "a != b") + [bad], [bad] + facts_of("a <= b")):
                with self.assertRaises(ValueError) as caught:
                    stand(facts)
                self.assertIs(type(caught.exception), kind)

    def test_forty_long_facts(self):
        core = ("h", tower(12), tower(12, ("b",)), tower(10, ("c",)))
        names = [first + second for first in "abcdefg" for second in "abcdef"][:41]
        rows = [("most", (name, core), (other, core)) for name, other in itertools.pairwise(names)]
        first, last = (names[0], core), (names[40], core)
        self.assertEqual(len(rows), 40)
        self.assertIs(stand(rows), True)
        self.assertIs(stand([*rows, ("over", first, last)]), False)
        self.assertIs(stand([*rows, ("over", last, first)]), True)

    def test_stand_is_defined_in_closing(self):
        self.assertEqual((closing.stand.__module__, closing.stand.__name__), ("alikeboard.closing", "stand"))


if __name__ == "__main__":
    unittest.main()
