"""The whole program: point 1, points 7 to 9 and 13 over boards, chains of forty facts, and one work over and over."""

import copy
import itertools
import math
import random
import unittest

from alikeboard.board import Board
from alikeboard.book import opened, written
from alikeboard.closing import stand
from alikeboard.errors import Clash, Full
from alikeboard.steps import derived, refuted
from alikeboard.whys import why, why_not
from alikeboard.worlds import world_of
from checking import Checking
from reckoning import WORDS, against, can_stand, fact_lists, facts_of, follows, stands, term_of, terms_in, tower
from test_board import board_of, seen, told
from test_groups import told_in_order

NAMES = [(first + second,) for first in "abcdefg" for second in "uvwxyz"][:41]
TERMS = ("a", "b", "c", "f(a)", "f(b)", "g(a,b)")


def mixed(facts, seed):
    """The same facts in another order, the same one in each run."""
    return random.Random(seed).sample(facts, len(facts))


def likenesses():
    """Forty likenesses from name to name, each other one turned round."""
    pairs = [pair if at % 2 else pair[::-1] for at, pair in enumerate(itertools.pairwise(NAMES))]
    return [("alike", first, second) for first, second in pairs]


def at_mosts():
    """Forty at mosts that come round to a ring of forty names."""
    return [("most", low, high) for low, high in zip(NAMES[:40], NAMES[1:40] + NAMES[:1])]


def left_out(facts):
    """Each of the lists in which one fact is left out."""
    return [facts[:place] + facts[place + 1:] for place in range(len(facts))]


class Chains(Checking):
    def check_yes(self, facts, fact, row):
        """A fact that follows of just one row of facts, on a board and beside one."""
        made = told_in_order(facts)
        self.assertEqual((why(facts, fact), made.ask(fact)), (row, ("yes", row)))
        self.assertEqual((why_not(facts, against(fact)), made.ask(against(fact))), (row, ("no", row)))
        self.assertIsNone(why_not(facts, fact))
        self.assertIsNone(why(facts, against(fact)))
        if fact[0] in ("alike", "most"):
            self.check_derived(facts, fact, derived(facts, fact))
            clashing = [*facts, against(fact)]
            self.check_refuted(clashing, refuted(clashing))
        if len(facts) < 40:
            self.assertEqual(self.refused(Clash, made.tell, against(fact)).row, row)
        else:
            self.refused(Full, made.tell, against(fact))
        self.assertEqual(made.facts(), facts)

    def check_open(self, facts, fact):
        made = told_in_order(facts)
        answer, world, other = made.ask(fact)
        self.assertEqual(answer, "open")
        self.check_world([*facts, fact], world)
        self.check_world([*facts, against(fact)], other)
        for asked in (fact, against(fact)):
            self.assertIsNone(why(facts, asked))
            self.assertIsNone(why_not(facts, asked))
            self.assertIsNone(refuted([*facts, asked]))
            if asked[0] in ("alike", "most"):
                self.assertIsNone(derived(facts, asked))

    def test_likenesses(self):
        for seed in range(4):
            facts = mixed(likenesses(), seed)
            for word in ("alike", "most"):
                self.check_yes(facts, (word, NAMES[0], NAMES[40]), list(range(40)))
                self.check_yes(facts, (word, NAMES[40], NAMES[0]), list(range(40)))
                self.check_yes(facts, (word, ("f", NAMES[40]), ("f", NAMES[0])), list(range(40)))
            self.assertEqual(told_in_order(facts).groups(), [sorted(NAMES)])
            self.assertEqual(told_in_order(facts).alike_to(NAMES[7]), sorted(NAMES))

    def test_parts_of_a_chain_of_likenesses(self):
        chain = likenesses()
        facts = mixed(chain, 9)
        for low, high in ((0, 1), (3, 11), (20, 40), (39, 40)):
            row = sorted(facts.index(fact) for fact in chain[low:high])
            self.check_yes(facts, ("alike", NAMES[high], NAMES[low]), row)

    def test_likenesses_but_one(self):
        chain = likenesses()
        for place, facts in enumerate(left_out(chain)):
            facts = mixed(facts, place)
            self.check_open(facts, ("alike", NAMES[0], NAMES[40]))
            self.check_open(facts, ("most", ("f", NAMES[40]), ("f", NAMES[0])))
            low, high = NAMES[:place + 1], NAMES[place + 1:]
            # The first name and the last one stand in one likeness only: where that is left out they stand in none.
            self.assertEqual(told_in_order(facts).groups(), [group for group in (low, high) if len(group) > 1])
            self.assertEqual(told_in_order(facts).alike_to(NAMES[0]), low)
            self.assertEqual(told_in_order(facts).alike_to(NAMES[40]), high)

    def test_a_clash_of_thirty_nine_likenesses(self):
        facts = mixed(likenesses()[:39], 5)
        self.check_yes(facts, ("alike", NAMES[39], NAMES[0]), list(range(39)))
        self.check_yes(facts, ("most", NAMES[0], NAMES[39]), list(range(39)))

    def test_at_mosts_that_come_round_to_a_ring(self):
        for seed in range(4):
            facts = mixed(at_mosts(), seed)
            for low, high in ((0, 39), (39, 0), (0, 1), (1, 0), (13, 30)):
                self.check_yes(facts, ("alike", NAMES[low], NAMES[high]), list(range(40)))
            self.check_yes(facts, ("alike", ("f", NAMES[3]), ("f", NAMES[33])), list(range(40)))
            self.assertEqual(told_in_order(facts).groups(), [sorted(NAMES[:40])])
            self.assertEqual(told_in_order(facts).alike_to(NAMES[7]), sorted(NAMES[:40]))

    def test_parts_of_a_ring(self):
        ring = at_mosts()
        facts = mixed(ring, 8)
        for low, high in ((0, 1), (0, 39), (5, 17), (39, 38), (30, 4)):
            way = ring[low:high] if low < high else ring[low:] + ring[:high]
            self.check_yes(facts, ("most", NAMES[low], NAMES[high]), sorted(map(facts.index, way)))

    def test_at_mosts_but_one(self):
        ring = at_mosts()
        for place, facts in enumerate(left_out(ring)):
            facts = mixed(facts, place)
            low, high = ring[place][1:]
            self.check_open(facts, ("alike", low, high))
            self.check_open(facts, ("most", low, high))
            self.check_open(facts, ("alike", ("f", NAMES[0]), ("f", NAMES[39])))
            self.assertEqual(told_in_order(facts).groups(), [[name] for name in sorted(NAMES[:40])])
            self.check_yes(facts, ("most", high, low), list(range(39)))

    def test_a_mixed_chain(self):
        chain = [(("most", "alike", "most")[at % 3], *pair) for at, pair in enumerate(itertools.pairwise(NAMES))]
        chain = [("alike", high, low) if word == "alike" and at % 2 else (word, low, high)
                 for at, (word, low, high) in enumerate(chain)]
        above = [("over", high, low) if word == "most" and at % 2 else (word, low, high)
                 for at, (word, low, high) in enumerate(chain)]
        for facts in (mixed(chain, 1), mixed(above, 2)):
            self.check_yes(facts, ("most", NAMES[0], NAMES[40]), list(range(40)))
            for rest in left_out(facts)[::7]:
                self.check_open(rest, ("most", NAMES[0], NAMES[40]))

    def test_a_chain_of_rings_that_close_one_another(self):
        facts = [("most", NAMES[0], NAMES[20]), ("most", NAMES[20], NAMES[0])]
        for (one, low), (other, high) in zip(itertools.pairwise(NAMES[:13]), itertools.pairwise(NAMES[20:33])):
            facts += [("most", low, ("g", one)), ("most", ("g", other), high), ("most", high, low)]
        fact = ("alike", NAMES[12], NAMES[32])
        for order in (facts, facts[::-1], mixed(facts, 3)):
            self.check_yes(order, fact, list(range(38)))
            self.check_yes(order, ("alike", ("h", NAMES[32], ("c",)), ("h", NAMES[12], ("c",))), list(range(38)))
            for rest in left_out(order):
                self.check_open(rest, fact)


class OverAndOver(Checking):
    def test_what_follows_goes_by_the_greatest_common_divisor(self):
        counts = ((6, 4), (4, 6), (3, 2), (7, 5), (12, 8), (9, 6), (10, 4), (5, 5), (39, 26), (39, 38), (4, 2))
        for many, other in counts:
            facts = [("alike", tower(many), ("a",)), ("alike", ("a",), tower(other))]
            made = told_in_order(facts)
            divisor = math.gcd(many, other)
            for count in range(1, 40):
                fact = ("alike", tower(count), ("a",))
                if count % divisor:
                    self.assertEqual(made.ask(fact)[0], "open", (many, other, count))
                    self.assertIsNone(derived(facts, fact))
                else:
                    answer, row = made.ask(fact)
                    self.assertEqual(answer, "yes")
                    wanted = [[at] for at, each in enumerate((many, other)) if count % each == 0] or [[0, 1]]
                    self.assertIn(row, wanted)
                    self.check_derived(facts, fact, derived(facts, fact))

    def test_its_groups(self):
        for many, other in ((6, 4), (3, 2), (9, 6), (12, 8), (39, 26), (39, 38), (5, 5)):
            made = told_in_order([("alike", tower(many), ("a",)), ("alike", tower(other), ("a",))])
            divisor = math.gcd(many, other)
            rests = [[tower(count) for count in range(many + 1) if count % divisor == rest] for rest in range(divisor)]
            texts = {tower(count): "f(" * count + "a" + ")" * count for count in range(many + 1)}
            expected = sorted([sorted(rest, key=texts.get) for rest in rests], key=lambda group: texts[group[0]])
            self.assertEqual(made.groups(), expected)

    def test_rings_instead_of_likenesses(self):
        pairs = [(tower(6), ("a",)), (("a",), tower(6)), (tower(4), ("a",)), (("a",), tower(4))]
        facts = [("most", low, high) for low, high in pairs]
        made = told_in_order(facts)
        self.assertEqual(made.ask(("alike", tower(2), ("a",))), ("yes", [0, 1, 2, 3]))
        self.assertEqual(made.ask(("alike", tower(1), ("a",)))[0], "open")
        self.check_derived(facts, ("alike", tower(2), ("a",)), derived(facts, ("alike", tower(2), ("a",))))
        self.assertEqual(self.refused(Clash, made.tell, ("unlike", tower(2), ("a",))).row, [0, 1, 2, 3])
        self.assertEqual(self.refused(Clash, made.tell, ("over", tower(2), ("a",))).row, [0, 2, 3])


class OverBoards(Checking):
    def each_list(self, seed, many=120):
        for facts in fact_lists(seed, many, (2, 3, 4), TERMS, ("alike", "most", "most", "unlike", "over")):
            if can_stand(facts):
                yield facts

    def test_what_is_told_is_yes_and_its_opposite_no(self):
        for facts in self.each_list(91):
            made = told_in_order(facts)
            for fact in facts:
                self.assertEqual(self.check_answer(facts, fact, made.ask(fact)), "yes")
                self.assertEqual(self.check_answer(facts, against(fact), made.ask(against(fact))), "no")

    def test_in_whatever_order_the_same_follows(self):
        asked = [(word, term_of(first), term_of(second)) for word in ("alike", "most")
                 for first, second in itertools.product(("a", "b", "f(a)", "f(b)"), repeat=2)]
        for facts in self.each_list(92, 60):
            answers = []
            for order in itertools.permutations(facts):
                made = told_in_order(order)
                words = [made.ask(fact)[0] for fact in asked]
                answers.append((made.groups(), words, made.alike_to(term_of("f(f(a))"))))
            self.assertEqual(answers, answers[:1] * len(answers))

    def test_what_was_yes_or_no_stays_so_and_groups_grow_together(self):
        asked = [(word, term_of(first), term_of(second)) for word in WORDS
                 for first, second in itertools.product(("a", "b", "f(a)", "f(b)"), repeat=2)]
        for facts in self.each_list(93, 80):
            made = Board()
            answers, groups = [made.ask(fact)[0] for fact in asked], made.groups()
            for fact in facts:
                made.tell(fact)
                later, wider = [made.ask(question)[0] for question in asked], made.groups()
                for before, answer in zip(answers, later):
                    self.assertIn(before, ("open", answer))
                for group in groups:
                    self.assertEqual(len([one for one in wider if set(group) <= set(one)]), 1)
                answers, groups = later, wider

    def test_worlds_of_boards(self):
        for facts in self.each_list(94):
            world = told_in_order(facts).world()
            self.check_world(facts, world)
            for word, first, second in itertools.product(WORDS, terms_in(facts)[:4], terms_in(facts)[:4]):
                expected = stands(word, world.worth(first), world.worth(second))
                self.assertIs(world.holds((word, first, second)), expected)

    def test_groups_go_by_what_is_asked(self):
        for facts in self.each_list(95, 60):
            made = told_in_order(facts)
            for group, other in itertools.product(made.groups(), repeat=2):
                answer = made.ask(("alike", group[0], other[-1]))[0]
                self.assertEqual(answer == "yes", group == other)
                self.assertEqual(answer == "yes", follows(facts, ("alike", group[0], other[-1])))


class NothingIsChanged(Checking):
    """Point 1 over the whole program."""

    TEXTS = ("a <= b", "f(a) = c", "b <= a", "c > d", "g(a,c) != g(c,a)")
    OPEN = ("a = d", "f(f(a)) = c", "d > f(c)", "p != q")

    def test_what_is_handed_in_is_as_it_was(self):
        facts = facts_of(*self.TEXTS)
        before = copy.deepcopy(facts)
        rows = list(self.TEXTS)
        made = opened(rows)
        for fact in facts + facts_of(*self.OPEN):
            again = copy.deepcopy(fact)
            for ask in (made.ask, lambda fact: stand([*facts, fact]), lambda fact: why(facts, fact),
                        lambda fact: why_not(facts, fact), lambda fact: world_of([*facts, fact]),
                        lambda fact: refuted([*facts, fact]), lambda fact: made.alike_to(fact[1])):
                ask(fact)
            if fact[0] in ("alike", "most"):
                derived(facts, fact)
            self.assertEqual(fact, again)
        self.assertEqual((facts, rows), (before, list(self.TEXTS)))

    def test_what_was_handed_in_may_be_changed(self):
        rows = list(self.TEXTS)
        facts = facts_of(*self.TEXTS)
        made, world = opened(rows), world_of(facts)
        before, told_rows = seen(made), world.rows()
        found = derived(facts, facts_of("f(b) = c")[0])
        steps = copy.deepcopy(found)
        rows.clear()
        facts.clear()
        self.assertEqual((seen(made), world.rows(), found), (before, told_rows, steps))

    def each_told(self, made):
        """Ways to each list that a board tells, inner ones too."""
        yield made.facts
        yield made.groups
        for place in range(len(made.groups())):
            yield lambda place=place: made.groups()[place]
        for text in ("a", "f(b)", "q", "f(f(b))"):
            yield lambda text=text: made.alike_to(term_of(text))
        for text in ("a = b", "a != b", "f(b) = c", "g(b,f(a)) > c", "d > f(b)", "a = a", "a > a"):
            fact = facts_of(text)[0]
            if made.ask(fact)[0] != "open":
                yield lambda fact=fact: made.ask(fact)[1]
        for text in self.OPEN:
            for place in (1, 2):
                yield lambda text=text, place=place: made.ask(facts_of(text)[0])[place].rows()
        yield lambda: made.world().rows()
        yield lambda: written(made)
        for text in ("a != b", "f(b) > c", "a != a"):
            yield lambda text=text: self.refused(Clash, made.tell, facts_of(text)[0]).row

    def test_lists_that_are_told_may_be_changed(self):
        made = board_of(*self.TEXTS)
        before = seen(made)
        for ask in self.each_told(made):
            answer = copy.deepcopy(ask())
            for change in (list.clear, list.reverse, lambda rows: rows.append(0), lambda rows: rows.insert(0, "x = y")):
                change(ask())
                self.assertEqual(ask(), answer)
        self.assertEqual(seen(made), before)

    def test_rows_of_one_world_may_be_changed(self):
        made = board_of(*self.TEXTS)
        _, world, other = made.ask(facts_of("a = d")[0])
        for each in (world, other, made.world()):
            rows, size = each.rows(), each.size()
            for change in (list.clear, list.reverse, lambda rows: rows.append(("a", (), 0))):
                change(each.rows())
                self.assertEqual((each.rows(), each.size()), (rows, size))
                self.assertTrue(all(each.holds(fact) for fact in made.facts()))

    def test_a_board_is_not_changed_by_lists_it_was_told_by(self):
        made = board_of(*self.TEXTS)
        facts = made.facts()
        facts.append(facts_of("d > c")[0])
        self.assertEqual(made.facts(), facts_of(*self.TEXTS))
        self.assertEqual(made.tell(facts_of("p = q")[0]), len(self.TEXTS))

    def test_asked_again_the_same_is_told(self):
        for texts in (self.TEXTS, self.TEXTS[:1], ()):
            made, other = board_of(*texts), board_of(*texts)
            for text in (*self.TEXTS, *self.OPEN):
                fact = facts_of(text)[0]
                self.assertEqual(told(made.ask(fact)), told(made.ask(fact)))
                self.assertEqual(told(made.ask(fact)), told(other.ask(fact)))
            self.assertEqual(seen(made), seen(made))
            self.assertEqual(seen(made), seen(other))

    def test_two_boards_beside_one_another(self):
        made, other = board_of(*self.TEXTS), board_of(*self.TEXTS)
        before = seen(other)
        made.mark()
        made.tell(facts_of("a = d")[0])
        made.tell(facts_of("p = q")[0])
        self.assertEqual(seen(other), before)
        self.assertEqual(other.mark(), 0)
        made.back(0)
        self.assertEqual((seen(made), seen(other)), (before, before))
        fresh = Board()
        self.assertEqual((fresh.facts(), fresh.groups()), ([], []))

    def test_telling_and_taking_back_leaves_no_trace(self):
        made = board_of(*self.TEXTS)
        before = seen(made)
        mark = made.mark()
        for text in self.OPEN:
            made.tell(facts_of(text)[0])
            made.ask(facts_of("a = d")[0])
            made.back(mark)
            self.assertEqual(seen(made), before)


if __name__ == "__main__":
    unittest.main()
