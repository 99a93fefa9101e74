"""Boards: facts told one after another, what follows of them, and marks that take them back."""

from alikeboard.closing import Closing
from alikeboard.errors import Clash, Full, NoMark
from alikeboard.facts import need_fact, opposite
from alikeboard.terms import need_term, shown
from alikeboard.whys import why, why_not
from alikeboard.worlds import world_of

MOST_FACTS = 40
MOST_MARKS = 20


class Board:
    """Facts that can stand together, and marks."""

    def __init__(self):
        self._facts = []
        # For each mark how many facts were told ahead of it.
        self._marks = []

    def tell(self, fact):
        """Take a fact and tell its place; refuse one too many with Full, one that can't stand here with Clash."""
        need_fact(fact)
        if len(self._facts) == MOST_FACTS:
            raise Full("a board has at most forty facts")
        row = why_not(self._facts, fact)
        if row is not None:
            raise Clash(row)
        self._facts.append(fact)
        return len(self._facts) - 1

    def facts(self):
        """Tell the facts in the order in which they were told."""
        return list(self._facts)

    def ask(self, fact):
        """Tell of a fact yes or no with a row of places, or open with a world where it stands and one where not."""
        need_fact(fact)
        row = why(self._facts, fact)
        if row is not None:
            return ("yes", row)
        row = why_not(self._facts, fact)
        if row is not None:
            return ("no", row)
        return ("open", world_of([*self._facts, fact]), world_of([*self._facts, opposite(fact)]))

    def world(self):
        """Tell a world in which all facts stand."""
        return world_of(self._facts)

    def groups(self):
        """Tell the terms that stand in the facts, parts too, in lists of those that are alike."""
        closing = Closing(self._facts)
        lists = {}
        # Terms come in the order of their texts, so that each list, and the lists by their first ones, are in order.
        for place, term in _by_texts(closing.terms()):
            lists.setdefault(closing.heads[place], []).append(term)
        return list(lists.values())

    def alike_to(self, term):
        """Tell a term and those that stand in the facts and are alike it."""
        need_term(term)
        closing = Closing(self._facts, (term,))
        asked = closing.asked[0]
        head = closing.heads[asked]
        alike = [(place, other) for place, other in _by_texts(closing.terms()) if closing.heads[place] == head]
        # The term's own parts are not told of where they stand in no fact.
        return [other for place, other in alike if place < closing.many or place == asked]

    def mark(self):
        """Make a mark and tell its number; refuse one too many with Full."""
        if len(self._marks) == MOST_MARKS:
            raise Full("a board has at most twenty marks")
        self._marks.append(len(self._facts))
        return len(self._marks) - 1

    def back(self, mark):
        """Take back the facts and the marks behind a mark; refuse with NoMark where there is no such mark."""
        if mark < 0 or mark >= len(self._marks):
            raise NoMark("there is no such mark")
        del self._facts[self._marks[mark]:]
        del self._marks[mark + 1:]


def _by_texts(terms):
    """Tell the terms of a list, each behind its place, in the order of their texts."""
    rows = sorted([(shown(term), place) for place, term in enumerate(terms)])
    return [(place, terms[place]) for _, place in rows]
