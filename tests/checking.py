"""Looks at what the document says of refusals, rows, worlds, steps and answers, for the tests of several points."""

import unittest

from reckoning import against, can_stand, stands, terms_in


def reckoned(rows, term):
    """What a term is worth by rows, and 0 for all else."""
    numbers = tuple(reckoned(rows, part) for part in term[1:])
    for name, told, number in rows:
        if (name, told) == (term[0], numbers):
            return number
    return 0


def unlike_rows(rows):
    return [(name, numbers) for name, numbers, _ in rows]


def is_term(value):
    return type(value) is tuple and type(value[0]) is str and all(is_term(part) for part in value[1:])


def turned(sources):
    (word, first, second), = sources
    return ("alike", second, first) if word == "alike" else None


def both(sources):
    (word, first, second), = sources
    return ("most", first, second) if word == "alike" else None


def below(sources):
    (word, first, second), = sources
    return ("most", second, first) if word == "over" else None


def ring(sources):
    (word, first, second), other = sources
    return ("alike", first, second) if word == "most" and other == ("most", second, first) else None


def through(sources):
    (word, first, middle), (other, same, last) = sources
    return (word, first, last) if word == other and word in ("alike", "most") and middle == same else None


COUNTS = {"turned": 1, "both": 1, "below": 1, "ring": 2, "through": 2}
COMING = {"turned": turned, "both": both, "below": below, "ring": ring, "through": through}


def comes(word, sources, fact):
    """Whether a fact comes of earlier steps' facts by a step of such a word (all but told), as point 10 tells it."""
    kind, first, second = fact
    if word == "same":
        return sources == [] and kind == "alike" and first == second
    if word == "parts":
        pairs = [("alike", part, other) for part, other in zip(first[1:], second[1:])]
        return kind == "alike" and (first[0], len(first)) == (second[0], len(second)) and sources == pairs
    return len(sources) == COUNTS.get(word) and COMING[word](sources) == fact


def good_step(facts, steps, at):
    """Whether a step is one by point 10, where those ahead of it are."""
    word, places, fact = steps[at]
    if word == "told":
        return len(places) == 1 and places[0] in range(len(facts)) and facts[places[0]] == fact
    return all(place in range(at) for place in places) and comes(word, [steps[place][2] for place in places], fact)


class Checking(unittest.TestCase):
    def refused(self, kind, function, *things):
        """Look whether such a refusal, and none below it, meets what is handed in; tell it."""
        with self.assertRaises(ValueError) as caught:
            function(*things)
        self.assertIs(type(caught.exception), kind)
        return caught.exception

    def check_row(self, facts, row, fact):
        """A rising row that can't stand together with a fact, but can where any place is left out."""
        self.check_places(facts, row)
        self.assertFalse(can_stand([facts[place] for place in row] + [fact]))
        for left_out in row:
            self.assertTrue(can_stand([facts[place] for place in row if place != left_out] + [fact]))

    def check_places(self, facts, row):
        self.assertIs(type(row), list)
        for place in row:
            self.assertIs(type(place), int)
            self.assertIn(place, range(len(facts)))
        self.assertEqual(row, sorted(set(row)))

    def check_rows(self, size, rows):
        self.assertIs(type(rows), list)
        self.assertEqual(rows, sorted(rows))
        self.assertEqual(len(rows), len(set(unlike_rows(rows))))
        for row in rows:
            self.assertEqual((type(row), len(row)), (tuple, 3))
            name, numbers, number = row
            self.assertEqual((type(name), type(numbers), type(number)), (str, tuple, int))
            for each in (number, *numbers):
                self.assertIs(type(each), int)
                self.assertIn(each, range(size))

    def check_world(self, facts, world):
        """A world in which some facts stand, by its rows too, with no more numbers than terms stand in them."""
        size, rows = world.size(), world.rows()
        self.assertIs(type(size), int)
        self.assertIn(size, range(1, max(1, len(terms_in(facts))) + 1))
        self.check_rows(size, rows)
        for word, first, second in facts:
            self.assertIs(world.holds((word, first, second)), True)
            self.assertTrue(stands(word, reckoned(rows, first), reckoned(rows, second)))

    def check_answer(self, facts, fact, answer):
        """What ask answers by point 12; tell its word."""
        self.assertIs(type(answer), tuple)
        if answer[0] == "open":
            _, world, other = answer
            self.check_world([*facts, fact], world)
            self.check_world([*facts, against(fact)], other)
            self.assertIs(world.holds(against(fact)), False)
            self.assertIs(other.holds(fact), False)
        else:
            word, row = answer
            self.assertIn(word, ("yes", "no"))
            self.check_row(facts, row, against(fact) if word == "yes" else fact)
        return answer[0]

    def check_steps(self, facts, steps):
        """Walk over all steps that are told of some facts; tell the last one's fact."""
        self.assertIs(type(steps), list)
        self.assertGreater(len(steps), 0)
        for at, step in enumerate(steps):
            self.assertEqual((type(step), len(step)), (tuple, 3))
            word, places, fact = step
            self.assertEqual((type(word), type(places), type(fact), len(fact)), (str, tuple, tuple, 3))
            self.assertTrue(all(type(place) is int for place in places))
            self.assertTrue(is_term(fact[1]) and is_term(fact[2]))
            self.assertTrue(good_step(facts, steps, at), (at, steps))
        return steps[-1][2]

    def check_derived(self, facts, fact, steps):
        """Steps that lead to a fact, and none behind it."""
        self.assertEqual(self.check_steps(facts, steps), fact)
        self.assertEqual([step[2] for step in steps].index(fact), len(steps) - 1)

    def check_refuted(self, facts, told):
        """Steps to the likeness that a told fact forbids; tell its place."""
        self.assertEqual((type(told), len(told)), (tuple, 2))
        steps, place = told
        self.assertIs(type(place), int)
        self.assertIn(place, range(len(facts)))
        word, first, second = facts[place]
        self.assertIn(word, ("unlike", "over"))
        self.check_derived(facts, ("alike", first, second), steps)
        return place
