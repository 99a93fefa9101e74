"""Terms: tuples of a name and none to three parts, which are terms."""

from alikeboard.errors import BadText, NoTerm

MOST_LETTERS = 6
MOST_PARTS = 3
MOST_NAMES = 40


def need_term(term):
    """Refuse with NoTerm what is no term."""
    names = 0
    waiting = [term]
    # A list of what is still to be seen, and no recursion: what is handed in may be far deeper than a term.
    while waiting:
        part = waiting.pop()
        names += 1
        if names > MOST_NAMES:
            raise NoTerm("a term has at most forty names")
        if len(part) == 0 or not _is_name(part[0]):
            raise NoTerm("a name is one to six small letters")
        if len(part) > 1 + MOST_PARTS:
            raise NoTerm("a term has at most three parts")
        waiting.extend(part[1:])


def parts_of(term):
    """Tell all terms that stand in a term, each once, in the order in which they first end; itself last."""
    need_term(term)
    found = []
    _gather(term, found)
    return found


def shown(term):
    """Tell the text of a term."""
    need_term(term)
    return _text_of(term)


def read(text):
    """Tell the term of a text; refuse with BadText a text that is none."""
    # In a term's text each "(" and each "," stands ahead of one more name. Counted first, they bound the recursion.
    if text.count("(") + text.count(",") >= MOST_NAMES:
        raise BadText("a term has at most forty names")
    term, end = _term_at(text, 0)
    if end < len(text):
        raise BadText("there are signs behind the term")
    return term


def _is_letter(sign):
    return "a" <= sign <= "z"


def _is_name(text):
    if len(text) < 1 or len(text) > MOST_LETTERS:
        return False
    return all([_is_letter(sign) for sign in text])


def _gather(term, found):
    """Put the parts of a term, and it behind them, into a list, but none that it has already."""
    for part in term[1:]:
        _gather(part, found)
    # A list and no dict: a term may be deeper than a key may be.
    if term not in found:
        found.append(term)


def _text_of(term):
    if len(term) == 1:
        return term[0]
    inner = ",".join([_text_of(part) for part in term[1:]])
    return f"{term[0]}({inner})"


def _term_at(text, start):
    """Tell the term that begins at a place of a text, and the place behind it."""
    end = _letters_end(text, start)
    name = text[start:end]
    if not _is_name(name):
        raise BadText("a name is one to six small letters")
    if text[end:end + 1] != "(":
        return (name,), end
    parts, end = _parts_at(text, end)
    return (name, *parts), end


def _parts_at(text, start):
    """Tell the parts in the brackets that begin at a place of a text, and the place behind the brackets."""
    parts = []
    end = start
    more = True
    while more:
        part, end = _term_at(text, end + 1)
        parts.append(part)
        more = text[end:end + 1] == ","
    if text[end:end + 1] != ")":
        raise BadText("brackets do not end")
    if len(parts) > MOST_PARTS:
        raise BadText("a term has at most three parts")
    return parts, end + 1


def _letters_end(text, start):
    """Tell the place behind the small letters that begin at a place of a text."""
    end = start
    while end < len(text) and _is_letter(text[end]):
        end += 1
    return end
