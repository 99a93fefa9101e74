"""Worlds: numbers, and what works make of them."""

from alikeboard.closing import Closing
from alikeboard.errors import NoFact
from alikeboard.facts import need_fact
from alikeboard.terms import need_term


class World:
    """Some numbers, from 0 on, and what each work makes of them: what the rows tell, and 0 of all else."""

    def __init__(self, size, rows):
        self._size = size
        self._rows = list(rows)
        self._worths = {(name, numbers): number for name, numbers, number in rows}

    def size(self):
        """Tell how many numbers there are."""
        return self._size

    def rows(self):
        """Tell the rows (name, numbers, number), rising."""
        return list(self._rows)

    def worth(self, term):
        """Tell the number that a term is."""
        need_term(term)
        return self._worth(term)

    def holds(self, fact):
        """Tell whether a fact stands."""
        need_fact(fact)
        word = fact[0]
        first = self._worth(fact[1])
        second = self._worth(fact[2])
        if word == "alike":
            return first == second
        if word == "unlike":
            return first != second
        if word == "most":
            return first <= second
        return first > second

    def _worth(self, term):
        numbers = tuple([self._worth(part) for part in term[1:]])
        return self._worths.get((term[0], numbers), 0)


def world_of(facts):
    """Tell a world in which all facts of a list stand; refuse with NoFact where there is none."""
    closing = Closing(facts)
    if closing.clash() is not None:
        raise NoFact("the facts can't stand together")
    numbers = _numbered(closing.above())
    worths = {}
    for place, (name, parts) in enumerate(closing.works):
        work = (name, tuple([numbers[closing.heads[part]] for part in parts]))
        worths[work] = numbers[closing.heads[place]]
    rows = sorted([(name, worked, worths[(name, worked)]) for name, worked in worths])
    return World(max(1, len(numbers)), rows)


def _numbered(above):
    """Tell a number of its own for each head, lower than those of all heads above it."""
    below = {head: 0 for head in above}
    for head in above:
        for higher, _ in above[head]:
            below[higher] += 1
    ready = [head for head in above if below[head] == 0]
    numbers = {}
    # No ring is left among the heads, so each one gets ready at some time.
    while ready:
        head = ready.pop()
        numbers[head] = len(numbers)
        for higher, _ in above[head]:
            below[higher] -= 1
            if below[higher] == 0:
                ready.append(higher)
    return numbers
