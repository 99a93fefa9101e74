"""Point 9: rows of facts of which a fact follows, or with which it can't stand together."""

import copy
import itertools
import unittest

from alikeboard import whys
from alikeboard.errors import Full
from alikeboard.whys import fewest, why, why_not
from checking import Checking
from reckoning import WORDS, against, can_stand, fact_lists, facts_of, term_of
from test_facts import each_bad

TERMS = ("a", "b", "c", "f(a)", "f(b)")

# Facts that can stand together, and one that follows of them all, but not where any one of them is left out.
WHOLE = (
    (("a = b",), "b = a"),
    (("a = b",), "a <= b"),
    (("a = b",), "b <= a"),
    (("a = b",), "f(a,c) = f(b,c)"),
    (("a != b",), "b != a"),
    (("a > b",), "a != b"),
    (("a > b",), "b <= a"),
    (("a = b", "b = c"), "c = a"),
    (("a <= b", "b <= a"), "a = b"),
    (("a <= b", "a != b"), "b > a"),
    (("a <= b", "b <= c"), "a <= c"),
    (("a > b", "b <= a", "c = b")[::2], "a > c"),
    (("a = b", "c = d"), "f(a,d) = f(b,c)"),
    (("a <= b", "b <= c", "c <= a"), "g(a) = g(c)"),
    (("f(a) != f(b)",), "a != b"),
    (("f(f(a)) = a", "f(f(f(a))) = a"), "f(a) = a"),
    (("a <= b", "b <= a", "f(a) <= c", "c <= f(b)"), "c = f(b)"),
    (("a <= b", "b = c", "c <= d", "e > d"), "e > a"),
    (("a <= b", "b <= a", "f(a) <= c", "c <= f(b)", "g(c,a) <= d", "d <= g(f(a),b)"), "d = g(f(b),b)"),
)
BESIDE = ("p = q", "p <= r", "f(p) != h(r)", "r > s")

OF_NONE = ("a = a", "a <= a", "f(a,b) = f(a,b)", "f(a,b) <= f(a,b)")
NEVER = ("a != a", "a > a", "f(a,b) != f(a,b)", "f(a,b) > f(a,b)")


def fact_of(text):
    return facts_of(text)[0]


class Case(Checking):
    def check_asked(self, facts, fact):
        """Look at what all three tell of a fact and some facts; tell whether it follows, can't stand or neither."""
        before = copy.deepcopy(facts)
        told = [why(facts, fact), why_not(facts, fact), why(facts, against(fact)), why_not(facts, against(fact))]
        least = fewest(facts, fact)
        self.assertEqual(facts, before)
        for row, other in ((told[0], against(fact)), (told[1], fact), (told[2], fact), (told[3], against(fact))):
            if can_stand([*facts, other]):
                self.assertIsNone(row)
            else:
                self.check_row(facts, row, other)
        if told[0] is None:
            self.assertIsNone(least)
            return "no" if told[1] is not None else "open"
        self.check_row(facts, least, against(fact))
        self.check_none_shorter(facts, least, fact)
        return "yes"

    def check_none_shorter(self, facts, row, fact):
        for many in range(len(row)):
            for shorter in itertools.combinations(facts, many):
                self.assertTrue(can_stand([*shorter, against(fact)]))


class WhyAndWhyNot(Case):
    def test_a_fact_that_is_told(self):
        facts = facts_of("a != b", "c <= d", "f(a) = c", "d > a")
        for place, fact in enumerate(facts):
            self.assertEqual(why(facts, fact), [place])
            self.assertEqual(why_not(facts, against(fact)), [place])
            self.assertIsNone(why_not(facts, fact))
            self.assertIsNone(why(facts, against(fact)))

    def test_a_fact_that_is_told_twice(self):
        facts = facts_of("b = c", "a <= b", "a <= b", "c > d", "a <= b")
        self.assertIn(why(facts, fact_of("a <= b")), ([1], [2], [4]))
        self.assertIn(why_not(facts, fact_of("a > b")), ([1], [2], [4]))

    def test_what_follows_of_none_at_all_has_the_empty_row(self):
        for facts in ([], facts_of("a = b"), facts_of("a = a", "a <= a", "f(a,b) = f(a,b)"), facts_of("b > a")):
            for text in OF_NONE:
                self.assertEqual(why(facts, fact_of(text)), [])
                self.assertIsNone(why_not(facts, fact_of(text)))

    def test_what_cannot_stand_at_all_has_the_empty_row(self):
        for facts in ([], facts_of("a = b"), facts_of("a = a", "a <= a", "f(a,b) = f(a,b)"), facts_of("b > a")):
            for text in NEVER:
                self.assertEqual(why_not(facts, fact_of(text)), [])
                self.assertIsNone(why(facts, fact_of(text)))

    def test_none_where_there_is_no_row(self):
        for texts, text in (((), "a = b"), ((), "a <= b"), (("a <= b",), "a = b"), (("a != b",), "a > b"),
                            (("f(a) = f(b)",), "a = b"), (("a <= b",), "f(a) <= f(b)"), (("a = b",), "f(a) = f(a,b)"),
                            (("a > b", "c > b"), "a = c"), (("a != b", "b != c"), "a != c")):
            facts, fact = facts_of(*texts), fact_of(text)
            for asked in (fact, against(fact)):
                self.assertIsNone(why(facts, asked))
                self.assertIsNone(why_not(facts, asked))

    def test_a_row_that_wants_all_facts(self):
        for texts, text in WHOLE:
            orders = itertools.permutations(texts) if len(texts) < 5 else (texts, texts[::-1])
            for order in orders:
                with self.subTest(order):
                    facts, fact = facts_of(*order), fact_of(text)
                    self.assertEqual(why(facts, fact), list(range(len(texts))))
                    self.assertEqual(why_not(facts, against(fact)), list(range(len(texts))))
                    self.assertIsNone(why_not(facts, fact))

    def test_facts_beside_it_that_it_does_not_want(self):
        for texts, text in WHOLE:
            for mixed in ((*BESIDE, *texts), (*texts, *BESIDE), (*BESIDE[:2], *texts, *BESIDE[2:]),
                          (texts[0], *BESIDE, *texts[1:]), (*texts[:-1], *BESIDE, texts[-1])):
                with self.subTest(mixed):
                    wanted = [place for place, each in enumerate(mixed) if each in texts]
                    self.assertEqual(why(facts_of(*mixed), fact_of(text)), wanted)
                    self.assertEqual(why_not(facts_of(*mixed), against(fact_of(text))), wanted)

    def test_several_rows(self):
        texts = ("a = b", "a <= c", "b = c", "c <= a", "a = c")
        for order in itertools.permutations(texts):
            facts, fact = facts_of(*order), fact_of("a = c")
            rows = [sorted(order.index(text) for text in row) for row in (texts[0:3:2], texts[1:4:2], texts[4:])]
            self.assertIn(why(facts, fact), rows)
            self.assertIn(why_not(facts, against(fact)), rows)

    def test_more_facts_than_ten(self):
        letters = "abcdefghijklmnopqrstuvwxyz"
        facts = [("most", (low,), (high,)) for low, high in itertools.pairwise(letters)]
        facts += [("unlike", ("g", (name,)), ("h", (name,))) for name in letters[:15]]
        self.assertEqual(why(facts, fact_of("a <= z")), list(range(25)))
        self.assertEqual(why_not(facts, fact_of("b > k")), list(range(1, 10)))
        self.assertIsNone(why(facts, fact_of("z <= a")))


class Fewest(Case):
    def test_the_short_way_and_not_the_long_one(self):
        way = ("a <= b", "b <= c", "c <= d", "d <= e")
        for short, text in ((("a = e",), "a <= e"), (("a = x", "x <= e"), "a <= e"), (("e > a",), "a <= e"),
                            (("a <= x", "x = y", "y <= e"), "a <= e"), (("c > a", "c = e"), "a <= e")):
            for texts in ((*way, *short), (*short, *way), (*way[:2], *short, *way[2:]), (*way[::-1], *short[::-1]),
                          (way[0], short[0], *way[1:], *short[1:]), (*short[1:], *way, short[0])):
                with self.subTest(texts):
                    wanted = [place for place, each in enumerate(texts) if each in short]
                    self.assertEqual(fewest(facts_of(*texts), fact_of(text)), wanted)

    def test_a_short_way_in_each_order(self):
        texts = ("a = b", "b = c", "c = d", "a <= e", "e <= a", "f(e) = f(d)")
        for order in itertools.permutations(texts):
            row = fewest(facts_of(*order), fact_of("f(a) = f(d)"))
            wanted = (sorted(map(order.index, texts[:3])), sorted(map(order.index, texts[3:])))
            self.assertIn(row, wanted)
            facts = facts_of(*order, "a = d")
            self.assertEqual(fewest(facts, fact_of("f(a) = f(d)")), [6])

    def test_through_works_or_beside_them(self):
        facts = facts_of("a <= b", "b <= a", "f(a) <= c", "c <= f(b)", "f(b) = d", "d = c")
        self.assertEqual(fewest(facts, fact_of("f(b) = c")), [4, 5])
        self.assertEqual(fewest(facts, fact_of("f(b) <= c")), [4, 5])
        self.assertEqual(fewest(facts, fact_of("f(a) <= c")), [2])
        self.assertEqual(fewest(facts, fact_of("f(a) = f(b)")), [0, 1])

    def test_the_empty_row_and_none(self):
        ten = facts_of(*BESIDE, *BESIDE, "a = b", "c = d")
        for facts in ([], facts_of("a = b"), facts_of("a = a", "a <= a"), ten):
            for text in OF_NONE:
                self.assertEqual(fewest(facts, fact_of(text)), [])
            for text in (*NEVER, "a = c", "b > d", "f(a) = f(d)"):
                self.assertIsNone(fewest(facts, fact_of(text)))

    def test_rows_that_want_all_facts(self):
        for texts, text in WHOLE:
            for mixed in ((*BESIDE, *texts), (*texts[::-1], *BESIDE)):
                wanted = [place for place, each in enumerate(mixed) if each in texts]
                self.assertEqual(fewest(facts_of(*mixed), fact_of(text)), wanted)

    def test_ten_facts_are_taken(self):
        ring = [("most", (low,), (high,)) for low, high in zip("abcdefghij", "bcdefghija")]
        self.assertEqual(fewest(ring, fact_of("a = f")), list(range(10)))
        self.assertEqual(fewest(ring, fact_of("j <= a")), [9])
        self.assertEqual(fewest(ring, fact_of("c <= f")), [2, 3, 4])
        self.assertIsNone(fewest(ring, fact_of("a = k")))
        self.assertEqual(fewest(ring[:9], fact_of("a <= j")), list(range(9)))

    def test_eleven_facts_are_refused_with_full(self):
        chain = [("most", (low,), (high,)) for low, high in zip("abcdefghijk", "bcdefghijkl")]
        same = facts_of("a = b") * 11
        for facts in (chain, same, chain * 2, same * 4, facts_of("a = a") * 11):
            for text in ("a <= b", "a = b", "a <= l", "p = q", "a = a", "a != a"):
                with self.assertRaises(ValueError) as caught:
                    fewest(facts, fact_of(text))
                self.assertIs(type(caught.exception), Full)

    def test_why_and_why_not_take_eleven_facts(self):
        chain = [("most", (low,), (high,)) for low, high in zip("abcdefghijk", "bcdefghijkl")]
        self.assertEqual(why(chain, fact_of("a <= l")), list(range(11)))
        self.assertEqual(why_not(chain, fact_of("a > l")), list(range(11)))


class ByTheReckoning(Case):
    def each_asked(self, seed, many, lengths, texts, words=WORDS):
        lists = fact_lists(seed, many, lengths, texts, words)
        asked = [fact for fact, in fact_lists(seed + 1, many, (1,), texts)]
        answers = [self.check_asked(facts, fact) for facts, fact in zip(lists, asked) if can_stand(facts)]
        # All three answers are common among these, so that none is left untried.
        for answer in ("yes", "no", "open"):
            self.assertGreater(answers.count(answer), len(answers) // 20, answer)

    def test_facts_without_parts(self):
        self.each_asked(21, 600, (2, 3, 4, 5, 6), ("a", "b", "c", "d"))

    def test_facts_with_parts(self):
        self.each_asked(23, 400, (3, 4, 5), TERMS)

    def test_likenesses_and_at_mosts(self):
        self.each_asked(25, 250, (4, 5, 6), TERMS, ("alike", "most", "most", "over"))

    def test_all_that_can_be_asked_of_a_few_facts(self):
        terms = [term_of(text) for text in ("a", "b", "f(a)", "f(b)")]
        for texts in (("a <= b", "b <= a", "f(b) > b"), ("f(a) != f(b)", "a <= b"), ("f(a) = b", "f(b) = a", "a > b")):
            for word, first, second in itertools.product(WORDS, terms, terms):
                self.check_asked(facts_of(*texts), (word, first, second))


class Promised(unittest.TestCase):
    def test_a_row_that_was_told_may_be_changed(self):
        facts = facts_of("a <= b", "b <= c", "c <= a", "p = q")
        fact = fact_of("a = c")
        for ask in (lambda: why(facts, fact), lambda: why_not(facts, against(fact)), lambda: fewest(facts, fact)):
            for change in (list.clear, list.reverse, lambda row: row.append(3), lambda row: row.insert(0, 3)):
                change(ask())
                self.assertEqual(ask(), [0, 1, 2])

    def test_an_empty_row_that_was_told_may_be_changed(self):
        for ask in (lambda: why([], fact_of("a = a")), lambda: why_not([], fact_of("a > a")),
                    lambda: fewest([], fact_of("a <= a"))):
            ask().append(0)
            self.assertEqual(ask(), [])

    def test_facts_are_as_they_were_also_behind_a_refusal(self):
        facts = facts_of("a = b") * 11
        with self.assertRaises(Full):
            fewest(facts, fact_of("a = b"))
        self.assertEqual(facts, facts_of("a = b") * 11)

    def test_what_is_no_fact_is_refused(self):
        good = fact_of("a = b")
        for bad, kind in each_bad():
            for ask in (why, why_not, fewest):
                for facts, fact in (([], bad), ([good], bad), ([bad], good), ([good, bad], good)):
                    with self.assertRaises(ValueError) as caught:
                        ask(facts, fact)
                    self.assertIs(type(caught.exception), kind)

    def test_each_function_is_defined_in_whys(self):
        for name in ("why", "why_not", "fewest"):
            made = getattr(whys, name)
            self.assertEqual((made.__module__, made.__name__), ("alikeboard.whys", name))


if __name__ == "__main__":
    unittest.main()
