"""Points 11, 12 and 14: telling, asking, marks; and points 2 and 5 as far as they speak of what a board is handed."""

import itertools
import unittest

from alikeboard import board as board_file
from alikeboard.board import Board
from alikeboard.errors import Clash, Full, NoFact, NoMark, NoTerm
from alikeboard.worlds import World
from checking import Checking
from reckoning import WORDS, against, can_stand, fact_lists, facts_of, term_of, tower
from test_facts import BAD_TERMS, BAD_WORDS, each_bad
from test_terms import NO_TERMS, names_in, wrapped

TERMS = ("a", "b", "c", "f(a)", "f(b)")
ASKED = ("a = b", "a != b", "a <= b", "b <= a", "a > b", "f(a) = f(b)", "f(a) > c", "p = q", "a = a", "f(p) > f(p)")

# Facts that a board takes, and with each of them one that it refuses then, with the row of the refusal.
CLASHES = (
    ((), "a != a", []),
    ((), "a > a", []),
    ((), "f(a,b) != f(a,b)", []),
    (("a = b", "p <= q"), "f(a) > f(a)", []),
    (("a = b",), "a != b", [0]),
    (("a = b",), "b > a", [0]),
    (("a <= b",), "a > b", [0]),
    (("a > b",), "a <= b", [0]),
    (("a > b",), "b > a", [0]),
    (("a > b",), "b = a", [0]),
    (("a != b",), "b = a", [0]),
    (("p = q", "a = b", "q != r", "b = c"), "c != a", [1, 3]),
    (("a <= b", "p = q", "b <= a"), "a != b", [0, 2]),
    (("a <= b", "a != b", "p = q"), "b <= a", [0, 1]),
    (("a != b", "p = q", "b <= c", "a <= c", "c <= b"), "b <= a", [0, 3, 4]),
    (("a = b", "c = d", "f(a,c) > f(c,c)"), "f(b,d) <= f(d,d)", [0, 1, 2]),
    (("f(a) != f(b)", "p = q"), "a = b", [0]),
    (("f(f(a)) = a", "p = q", "f(f(f(a))) = a"), "a > f(a)", [0, 2]),
    (("a <= b", "b <= a", "f(a) <= c", "p = q", "c <= f(b)"), "c != f(a)", [0, 1, 2, 4]),
)


def fact_of(text):
    return facts_of(text)[0]


def board_of(*texts):
    made = Board()
    for fact in facts_of(*texts):
        made.tell(fact)
    return made


def told(answer):
    """An answer of ask, its worlds as what they tell."""
    return (answer[0], *((part.size(), part.rows()) if type(part) is World else part for part in answer[1:]))


def seen(made):
    """All that a board answers to some questions, marks left aside."""
    world = made.world()
    alike = [made.alike_to(term_of(text)) for text in ("a", "f(b)", "p", "f(f(a))")]
    asked = [told(made.ask(fact_of(text))) for text in ASKED]
    return made.facts(), made.groups(), (world.size(), world.rows()), alike, asked


def full_board():
    """A board of forty facts."""
    made = board_of("a = b", "b = c", "f(a) != f(d)")
    for place in range(3, 40):
        made.tell(("most", tower(place % 7), ("z", tower(place % 5))))
    return made


class Tell(Checking):
    def test_places_are_counted_from_0(self):
        made = Board()
        texts = ("a = b", "f(a) <= c", "a <= b", "c != d", "d > f(d)", "a = b", "a = b", "b = b")
        for place, fact in enumerate(facts_of(*texts)):
            told_place = made.tell(fact)
            self.assertEqual((told_place, type(told_place)), (place, int))
            self.assertEqual(made.facts(), facts_of(*texts[:place + 1]))
        self.assertIs(type(made.facts()), list)

    def test_there_are_none_at_first(self):
        self.assertEqual(Board().facts(), [])

    def test_a_fact_that_follows_or_is_told_again_has_a_place_of_its_own(self):
        made = board_of("a = b")
        places = [made.tell(fact_of(text)) for text in ("a = b", "b <= a", "f(a) = f(b)", "a = a")]
        self.assertEqual(places, [1, 2, 3, 4])
        self.assertEqual(made.facts(), facts_of("a = b", "a = b", "b <= a", "f(a) = f(b)", "a = a"))

    def test_forty_facts_and_one_more(self):
        made = Board()
        for place in range(40):
            self.assertEqual(made.tell(("over", ("b" + "cdefg"[place % 5],), ("a",))), place)
        for _ in range(2):
            self.refused(Full, made.tell, fact_of("p = q"))
            self.assertEqual(len(made.facts()), 40)

    def test_full_ahead_of_clash(self):
        made = full_board()
        self.assertEqual(len(made.facts()), 40)
        for text in ("a != b", "a != a", "c > a", "f(d) = f(b)", "p > p", "a = b", "a = a", "p = q"):
            self.refused(Full, made.tell, fact_of(text))

    def test_no_fact_and_no_term_ahead_of_full(self):
        for made in (Board(), board_of("a = b"), full_board()):
            before = made.facts()
            for bad, kind in each_bad():
                self.refused(kind, made.tell, bad)
            self.assertEqual(made.facts(), before)

    def test_clash_and_its_row(self):
        for texts, text, row in CLASHES:
            made = board_of(*texts)
            with self.subTest(texts, told=text):
                refusal = self.refused(Clash, made.tell, fact_of(text))
                self.assertEqual(refusal.row, row)
                self.check_row(facts_of(*texts), refusal.row, fact_of(text))
                self.assertEqual(made.facts(), facts_of(*texts))

    def test_clash_where_there_are_several_rows(self):
        texts = ("a = b", "a <= c", "b = c", "c <= a", "a = c")
        for order in itertools.permutations(texts):
            rows = [sorted(order.index(text) for text in row) for row in (texts[0:3:2], texts[1:4:2], texts[4:])]
            self.assertIn(self.refused(Clash, board_of(*order).tell, fact_of("c != a")).row, rows)

    def test_just_what_can_stand_is_taken(self):
        lists = [
            *fact_lists(61, 150, (7,), ("a", "b", "c", "d")),
            *fact_lists(62, 150, (5,), TERMS),
            *fact_lists(63, 100, (6,), ("a", "b", "g(a,b)", "g(b,a)"), ("alike", "most", "most", "over")),
        ]
        for facts in lists:
            made, taken = Board(), []
            for fact in facts:
                if can_stand([*taken, fact]):
                    self.assertEqual(made.tell(fact), len(taken))
                    taken.append(fact)
                else:
                    self.check_row(taken, self.refused(Clash, made.tell, fact).row, fact)
                self.assertEqual(made.facts(), taken)


class RefusalsChangeNothing(Checking):
    def test_behind_each_refusal_the_board_answers_as_before(self):
        for texts, text, _ in CLASHES:
            made = board_of(*texts)
            before = seen(made)
            for _ in range(2):
                self.refused(Clash, made.tell, fact_of(text))
                self.assertEqual(seen(made), before)
            for fact, kind in ((("above", ("a",), ("b",)), NoFact), (("alike", ("a",), ("B",)), NoTerm)):
                self.refused(kind, made.tell, fact)
                self.refused(kind, made.ask, fact)
                self.refused(NoTerm, made.alike_to, ("f", ("B",)))
                self.refused(NoMark, made.back, 0)
            self.assertEqual(seen(made), before)
            self.assertEqual(made.tell(fact_of("s = t")), len(texts))
            self.assertEqual(made.mark(), 0)

    def test_behind_full(self):
        made = full_board()
        before = seen(made)
        self.refused(Full, made.tell, fact_of("p = q"))
        self.refused(Full, made.tell, fact_of("a != a"))
        self.assertEqual(seen(made), before)

    def test_marks_are_as_they_were(self):
        made = board_of("a = b")
        self.assertEqual(made.mark(), 0)
        made.tell(fact_of("b = c"))
        self.refused(Clash, made.tell, fact_of("a != c"))
        self.refused(NoMark, made.back, 1)
        made.back(0)
        self.assertEqual(made.facts(), facts_of("a = b"))
        self.assertEqual(made.mark(), 1)


class Ask(Checking):
    def check(self, texts, text, expected):
        facts, fact = facts_of(*texts), fact_of(text)
        answer = board_of(*texts).ask(fact)
        self.assertEqual(self.check_answer(facts, fact, answer), expected)
        return answer

    def test_yes_with_its_row(self):
        for texts, text, row in CLASHES:
            asked = against(fact_of(text))
            answer = board_of(*texts).ask(asked)
            self.assertEqual(answer, ("yes", row))
            self.check_answer(facts_of(*texts), asked, answer)

    def test_no_with_its_row(self):
        for texts, text, row in CLASHES:
            answer = board_of(*texts).ask(fact_of(text))
            self.assertEqual(answer, ("no", row))
            self.check_answer(facts_of(*texts), fact_of(text), answer)

    def test_the_empty_board(self):
        for text in ("a = a", "a <= a", "f(a,b) = f(a,b)", "f(a,b) <= f(a,b)"):
            self.assertEqual(Board().ask(fact_of(text)), ("yes", []))
            self.assertEqual(Board().ask(against(fact_of(text))), ("no", []))
        for text in ("a = b", "a != b", "a <= b", "a > b", "f(a) = a", "f(a) > f(b)", "f(a) = f(a,a)"):
            self.check((), text, "open")

    def test_open_with_two_worlds(self):
        for texts, text in ((("a <= b",), "a = b"), (("a <= b",), "b <= a"), (("a != b",), "a > b"),
                            (("a <= b",), "f(a) <= f(b)"), (("a = b",), "f(a) = f(a,b)"), (("a = b",), "c > a"),
                            (("a > b", "c > b"), "a = c"), (("a != b", "b != c"), "a != c"),
                            (("f(a) = f(b)",), "a = b"), (("f(f(a)) = a", "f(f(f(f(a)))) = a"), "f(a) = a"),
                            (("a > b", "p = q"), "h(a,b,p) <= h(b,a,q)"), (("a > b", "b > c"), "d > a"),
                            (("a <= b", "b <= c"), "c > a")):
            for asked in (text, text.replace(" = ", " != "), text.replace(" <= ", " > ")):
                answer = self.check(texts, asked, "open")
                self.assertEqual([type(part) for part in answer], [str, World, World])
                _, world, other = answer
                self.assertIs(world.holds(fact_of(asked)), True)
                self.assertIs(other.holds(against(fact_of(asked))), True)

    def test_each_answer_of_facts_of_few_sorts(self):
        lists = [*fact_lists(71, 200, (2, 3, 4, 5), ("a", "b", "c", "d")), *fact_lists(72, 200, (3, 4), TERMS)]
        asked = fact_lists(73, len(lists), (3,), TERMS)
        answers = []
        for facts, questions in zip(lists, asked):
            if can_stand(facts):
                made = Board()
                for fact in facts:
                    made.tell(fact)
                answers += [self.check_answer(facts, fact, made.ask(fact)) for fact in questions]
        for answer in ("yes", "no", "open"):
            self.assertGreater(answers.count(answer), len(answers) // 20, answer)

    def test_a_full_board_answers(self):
        made = full_board()
        self.assertEqual(made.ask(fact_of("c = a")), ("yes", [0, 1]))
        self.assertEqual(made.ask(fact_of("g(c) != g(a)")), ("no", [0, 1]))
        answer = made.ask(fact_of("d > c"))
        self.assertEqual(answer[0], "open")
        self.check_world(made.facts() + [fact_of("d > c")], answer[1])
        self.check_world(made.facts() + [fact_of("d <= c")], answer[2])

    def test_what_is_asked_is_not_told(self):
        made = board_of("a <= b")
        for text in ASKED * 2:
            made.ask(fact_of(text))
            self.assertEqual(made.facts(), facts_of("a <= b"))

    def test_no_fact_and_no_term(self):
        for made in (Board(), board_of("a = b"), full_board()):
            for bad, kind in each_bad():
                self.refused(kind, made.ask, bad)


class WorldOfABoard(Checking):
    def test_all_told_facts_stand_there(self):
        for texts, _, _ in CLASHES:
            world = board_of(*texts).world()
            self.assertIs(type(world), World)
            self.check_world(facts_of(*texts), world)

    def test_the_empty_board_has_a_world_of_one_number(self):
        world = Board().world()
        self.check_world([], world)
        self.assertEqual(world.size(), 1)

    def test_it_is_not_changed_by_what_is_told_later(self):
        made = board_of("a > b")
        world = made.world()
        before = (world.size(), world.rows())
        made.tell(fact_of("f(a) > a"))
        made.tell(fact_of("b > c"))
        self.assertEqual((world.size(), world.rows()), before)
        self.check_world(made.facts(), made.world())


class Terms(Checking):
    """What is a term or a fact and what is none, as a board takes it: points 2 and 5."""

    def each_asker(self):
        made = board_of("a = b")
        for word in WORDS:
            yield lambda term, word=word: made.ask((word, term, ("a",)))
            yield lambda term, word=word: made.ask((word, ("f", ("a",)), term))
            yield lambda term, word=word: Board().tell((word, term, ("q",)))
            yield lambda term, word=word: Board().tell((word, ("q",), term))
        yield made.alike_to

    def test_forty_names_are_taken_and_forty_one_are_not(self):
        wide = ("g", tower(12), ("h", tower(11), tower(11)), ("k",))
        for core in (("a",), ("f", ("a",), ("b",)), wide):
            many = names_in(core)
            for ask in self.each_asker():
                ask(tower(40 - many, core))
                for more in (1, 2, 40):
                    self.refused(NoTerm, ask, tower(40 - many + more, core))

    def test_a_wrong_name_or_a_fourth_part_at_each_depth(self):
        for ask in self.each_asker():
            for inner in NO_TERMS:
                for term in wrapped(inner):
                    self.refused(NoTerm, ask, term)
        for ask in self.each_asker():
            for depth in range(36):
                ask(tower(depth, ("g", ("a",), ("b",), ("c",))))
                self.refused(NoTerm, ask, tower(depth, ("g", ("a",), ("b",), ("c",), ("d",))))
                self.refused(NoTerm, ask, tower(depth, ("g", ("a",), ("letters",), ("c",))))
                self.refused(NoTerm, ask, tower(depth, ("G", ("a",), ("b",), ("c",))))

    def test_what_is_far_too_deep(self):
        for ask in self.each_asker():
            for term in (tower(600), ("g", ("b",), tower(600)), tower(5000)):
                self.refused(NoTerm, ask, term)

    def test_words_and_counts_ahead_of_terms(self):
        made = board_of("a = b")
        for ask in (made.tell, made.ask):
            for bad in (*BAD_TERMS, ("a",)):
                for word in BAD_WORDS:
                    for fact in ((word, bad, ("a",)), (word, ("a",), bad), (word, bad), (word,), (word, bad, bad, bad)):
                        self.refused(NoFact, ask, fact)
                for word in WORDS:
                    for fact in ((word, bad), (word,), (word, bad, ("a",), ("b",)), (word, ("a",), ("b",), bad)):
                        self.refused(NoFact, ask, fact)


class Marks(Checking):
    def test_marks_are_counted_from_0(self):
        made = Board()
        self.assertEqual([made.mark() for _ in range(3)], [0, 1, 2])
        made.tell(fact_of("a = b"))
        self.assertEqual([made.mark() for _ in range(2)], [3, 4])

    def test_going_back_takes_back_what_was_told_behind_the_mark(self):
        made = board_of("a = b")
        first = made.mark()
        made.tell(fact_of("b = c"))
        second = made.mark()
        made.tell(fact_of("c = d"))
        made.tell(fact_of("d > e"))
        self.assertIsNone(made.back(second))
        self.assertEqual(made.facts(), facts_of("a = b", "b = c"))
        self.assertIsNone(made.back(first))
        self.assertEqual(made.facts(), facts_of("a = b"))

    def test_the_mark_itself_stays(self):
        made = board_of("a = b")
        mark = made.mark()
        for text in ("b = c", "b != c", "c > a"):
            self.assertEqual(made.tell(fact_of(text)), 1)
            made.back(mark)
            self.assertEqual(made.facts(), facts_of("a = b"))
            made.back(mark)
            self.assertEqual(made.facts(), facts_of("a = b"))

    def test_marks_behind_it_are_gone(self):
        made = Board()
        for text in ("a = b", "b = c", "c = d", "d = e"):
            made.mark()
            made.tell(fact_of(text))
        made.back(1)
        self.assertEqual(made.facts(), facts_of("a = b"))
        for gone in (2, 3, 4):
            self.refused(NoMark, made.back, gone)
        self.assertEqual(made.facts(), facts_of("a = b"))
        made.tell(fact_of("p = q"))
        self.assertEqual(made.mark(), 2)
        made.tell(fact_of("q = r"))
        self.refused(NoMark, made.back, 3)
        made.back(2)
        self.assertEqual(made.facts(), facts_of("a = b", "p = q"))
        made.back(0)
        self.assertEqual(made.facts(), [])
        self.refused(NoMark, made.back, 1)

    def test_marks_that_never_were(self):
        for many in (0, 1, 3):
            made = board_of("a = b")
            for _ in range(many):
                made.mark()
            made.tell(fact_of("b = c"))
            for mark in (-1, -2, -many, many, many + 1, 19, 20, 100):
                if mark not in range(many):
                    self.refused(NoMark, made.back, mark)
                    self.assertEqual(made.facts(), facts_of("a = b", "b = c"))

    def test_several_marks_at_one_place(self):
        made = board_of("a = b")
        self.assertEqual([made.mark() for _ in range(3)], [0, 1, 2])
        made.tell(fact_of("b = c"))
        made.back(2)
        made.back(1)
        self.assertEqual(made.facts(), facts_of("a = b"))
        self.refused(NoMark, made.back, 2)
        self.assertEqual(made.mark(), 2)

    def test_twenty_marks_and_one_more(self):
        made = Board()
        self.assertEqual([made.mark() for _ in range(20)], list(range(20)))
        made.tell(fact_of("a = b"))
        for _ in range(2):
            self.refused(Full, made.mark)
        self.refused(NoMark, made.back, 20)
        made.back(19)
        self.refused(Full, made.mark)
        made.back(18)
        self.assertEqual(made.mark(), 19)
        self.refused(Full, made.mark)
        made.back(0)
        self.assertEqual([made.mark() for _ in range(19)], list(range(1, 20)))
        self.refused(Full, made.mark)

    def test_a_full_board_takes_marks_and_what_is_told_behind_going_back(self):
        made = Board()
        for place in range(40):
            if place in (10, 30):
                made.mark()
            made.tell(("alike", ("a",), ("b" * (1 + place % 6),)))
        self.assertEqual(made.mark(), 2)
        self.refused(Full, made.tell, fact_of("p = q"))
        made.back(1)
        for place in range(30, 40):
            self.assertEqual(made.tell(fact_of("p = q")), place)
        self.refused(Full, made.tell, fact_of("p = q"))
        made.back(0)
        self.assertEqual(made.tell(fact_of("p != q")), 10)

    def test_behind_going_back_the_board_answers_as_one_told_anew(self):
        for texts, _, _ in CLASHES:
            for kept in range(len(texts) + 1):
                made = board_of(*texts[:kept])
                mark = made.mark()
                for fact in facts_of(*texts[kept:]):
                    made.tell(fact)
                made.back(mark)
                self.assertEqual(seen(made), seen(board_of(*texts[:kept])))
                for text in ("a != b", "f(b) = p", "b > c"):
                    if can_stand([*made.facts(), fact_of(text)]):
                        made.tell(fact_of(text))
                self.assertEqual(made.facts()[:kept], facts_of(*texts[:kept]))
                anew = Board()
                for fact in made.facts():
                    anew.tell(fact)
                self.assertEqual(seen(made), seen(anew))

    def test_what_was_refused_can_be_told_behind_going_back(self):
        made = board_of("a <= b")
        mark = made.mark()
        made.tell(fact_of("b <= a"))
        self.refused(Clash, made.tell, fact_of("a != b"))
        self.assertEqual(made.ask(fact_of("a = b"))[0], "yes")
        made.back(mark)
        self.assertEqual(made.ask(fact_of("a = b"))[0], "open")
        self.assertEqual(made.tell(fact_of("a != b")), 1)
        self.assertEqual(made.ask(fact_of("a = b")), ("no", [1]))


class Interface(unittest.TestCase):
    def test_all_is_defined_in_board(self):
        self.assertEqual((Board.__module__, Board.__name__), ("alikeboard.board", "Board"))
        self.assertIs(board_file.Board, Board)
        for name in ("tell", "facts", "ask", "world", "groups", "alike_to", "mark", "back"):
            self.assertIn(name, vars(Board))


if __name__ == "__main__":
    unittest.main()
