"""Facts: tuples of a word and two terms, of which the word tells how they stand to each other."""

from alikeboard.errors import BadText, NoFact
from alikeboard.terms import need_term, read, shown

OPPOSITES = {"alike": "unlike", "unlike": "alike", "most": "over", "over": "most"}
SIGNS = {"alike": "=", "unlike": "!=", "most": "<=", "over": ">"}


def need_fact(fact):
    """Refuse with NoFact, else with NoTerm, what is no fact."""
    if len(fact) != 3:
        raise NoFact("a fact is a word and two terms")
    if fact[0] not in SIGNS:
        raise NoFact("the word of a fact is alike, unlike, most or over")
    need_term(fact[1])
    need_term(fact[2])


def opposite(fact):
    """Tell the fact that stands just where this one doesn't."""
    need_fact(fact)
    word, first, second = fact
    return (OPPOSITES[word], first, second)


def shown_fact(fact):
    """Tell the text of a fact."""
    need_fact(fact)
    word, first, second = fact
    return f"{shown(first)} {SIGNS[word]} {shown(second)}"


def read_fact(text):
    """Tell the fact of a text; refuse with BadText a text that is none."""
    pieces = text.split(" ")
    if len(pieces) != 3:
        raise BadText("a fact is a term, a blank, a sign, a blank and a term")
    first, sign, second = pieces
    return (_word_of(sign), read(first), read(second))


def _word_of(sign):
    for word in SIGNS:
        if SIGNS[word] == sign:
            return word
    raise BadText("the sign of a fact is one of = != <= >")
