"""Rows: of which facts of a list a fact follows, and which of them it can't stand together with."""

from itertools import combinations

from alikeboard.closing import stand
from alikeboard.errors import Full
from alikeboard.facts import opposite

MOST_FACTS = 10


def why(facts, fact):
    """Tell a row of places of which a fact follows and none of which can be left out, or None."""
    return why_not(facts, opposite(fact))


def why_not(facts, fact):
    """Tell a row of places that can't stand together with a fact and none of which can be left out, or None."""
    row = list(range(len(facts)))
    if _stand_with(facts, row, fact):
        return None
    # What is wanted beside more facts is wanted beside fewer, too, so that each place is tried once only.
    for place in range(len(facts)):
        rest = [other for other in row if other != place]
        if not _stand_with(facts, rest, fact):
            row = rest
    return row


def fewest(facts, fact):
    """Tell such a row as why tells, of the fewest places that any has, or None; refuse with Full too many facts."""
    if len(facts) > MOST_FACTS:
        raise Full("fewest is for at most ten facts")
    against = opposite(fact)
    # One look at all of them spares looking through all rows where there is none.
    if stand([*facts, against]):
        return None
    for many in range(len(facts) + 1):
        for row in combinations(range(len(facts)), many):
            if not _stand_with(facts, row, against):
                return list(row)
    return None


def _stand_with(facts, row, fact):
    """Tell whether the facts at the places of a row can stand together with a fact."""
    return stand([facts[place] for place in row] + [fact])
