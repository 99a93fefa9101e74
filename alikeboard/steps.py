"""Steps: how facts come, one of others, of the facts of a list."""

from alikeboard.closing import Closing
from alikeboard.errors import NoFact
from alikeboard.facts import need_fact


def derived(facts, fact):
    """Tell the steps to a fact, or None where it doesn't follow; refuse with NoFact what is neither alike nor most."""
    if len(fact) != 3 or fact[0] not in ("alike", "most"):
        raise NoFact("steps lead to alike and most alone")
    need_fact(fact)
    word, one, other = fact
    closing = Closing(facts, (one, other))
    first, second = closing.asked
    if word == "alike":
        if closing.heads[first] != closing.heads[second]:
            return None
        proof = Proof(closing)
        return proof.steps_to(proof.alike(first, second))
    way = closing.way(first, second)
    if way is None:
        return None
    proof = Proof(closing)
    return proof.steps_to(proof.at_most(first, second, way))


def refuted(facts):
    """Tell the steps that forbid a fact of a list, and its place; None where the facts can stand together."""
    closing = Closing(facts)
    place = closing.clash()
    if place is None:
        return None
    _, first, second = closing.told[place]
    proof = Proof(closing)
    return proof.steps_to(proof.alike(first, second)), place


class Proof:
    """The steps to what a closing tells, found by doing again, one after another, what it did.

    A fact stands here as (word, place, place): terms may be deeper than a key may be. Each fact has one step at most,
    so that what is found once is used over and over, and no step comes behind the one to the same fact.
    """

    def __init__(self, closing):
        self._closing = closing
        self._steps = []
        # For each fact the place of its step.
        self._found = {}
        # For each place one that it is alike, nearer to its head; the head has itself.
        self._links = list(range(len(closing.heads)))
        for lost, kept, first, second, cause in closing.merges:
            self._link(lost, kept, first, second, self._caused(first, second, cause))

    def steps_to(self, goal):
        """Tell the step at a place and ahead of it those of which it comes, and no others."""
        wanted = {goal}
        for at in range(goal, -1, -1):
            if at in wanted:
                for place in self._sources(at):
                    wanted.add(place)
        chosen = sorted(wanted)
        places = {at: place for place, at in enumerate(chosen)}
        terms = self._closing.terms()
        steps = []
        for at in chosen:
            word, sources, (kind, first, second) = self._steps[at]
            if word != "told":
                sources = tuple([places[source] for source in sources])
            steps.append((word, sources, (kind, terms[first], terms[second])))
        return steps

    def alike(self, first, second):
        """Tell the place of the step to two terms being alike, where they have one head."""
        return self._through(self._to_head(first), self._turned(self._to_head(second)))

    def at_most(self, first, second, way):
        """Tell the place of the step to one term being at most another, where facts lead up from it by a way."""
        step = self._both(self.alike(first, first))
        reached = first
        for at in way:
            rise = self._rise(at)
            _, low, high = self._steps[rise][2]
            step = self._through(step, self._both(self.alike(reached, low)))
            step = self._through(step, rise)
            reached = high
        return self._through(step, self._both(self.alike(reached, second)))

    def _sources(self, at):
        """Tell the places of the steps of which a step comes."""
        word, sources, _ = self._steps[at]
        if word == "told":
            return ()
        return sources

    def _put(self, word, sources, fact):
        """Tell the place of the step to a fact; put one behind the others where there is none."""
        if fact not in self._found:
            self._found[fact] = len(self._steps)
            self._steps.append((word, sources, fact))
        return self._found[fact]

    def _told(self, at):
        return self._put("told", (at,), self._closing.told[at])

    def _turned(self, step):
        _, first, second = self._steps[step][2]
        return self._put("turned", (step,), ("alike", second, first))

    def _both(self, step):
        _, first, second = self._steps[step][2]
        return self._put("both", (step,), ("most", first, second))

    def _through(self, step, other):
        word, first, _ = self._steps[step][2]
        _, _, last = self._steps[other][2]
        return self._put("through", (step, other), (word, first, last))

    def _rise(self, at):
        """Tell the place of the step to the at most of a told fact that is most or over."""
        step = self._told(at)
        word, first, second = self._steps[step][2]
        if word == "over":
            return self._put("below", (step,), ("most", second, first))
        return step

    def _to_head(self, place):
        """Tell the place of the step to a term being alike its head."""
        step = self._put("same", (), ("alike", place, place))
        at = place
        while self._links[at] != at:
            step = self._through(step, self._found[("alike", at, self._links[at])])
            at = self._links[at]
        return step

    def _caused(self, first, second, cause):
        """Tell the place of the step to two terms being alike, for a cause as a closing tells it."""
        if len(cause) == 0:
            return self._of_parts(first, second)
        if len(cause) == 1:
            return self._told(cause[0])
        up = self._rise(cause[0])
        return self._put("ring", (up, self.at_most(second, first, cause[1:])), ("alike", first, second))

    def _of_parts(self, first, second):
        _, parts = self._closing.works[first]
        _, others = self._closing.works[second]
        sources = tuple([self.alike(part, other) for part, other in zip(parts, others)])
        return self._put("parts", sources, ("alike", first, second))

    def _link(self, lost, kept, first, second, step):
        """Lead from a head to another one, where a step tells that a term of either is alike one of the other."""
        near, far, middle = first, second, step
        if self._head(first) == kept:
            near, far, middle = second, first, self._turned(step)
        middle = self._through(self._turned(self._to_head(near)), middle)
        self._through(middle, self._to_head(far))
        self._links[lost] = kept

    def _head(self, place):
        at = place
        while self._links[at] != at:
            at = self._links[at]
        return at
