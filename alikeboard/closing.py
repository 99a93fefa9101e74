"""Closing: which terms of some facts must be alike, and whether the facts can stand together."""

from alikeboard.facts import need_fact


def stand(facts):
    """Tell whether facts of a list can stand together."""
    return Closing(facts).can_stand()


class Closing:
    """The terms that stand in some facts, parts too, and which of them must be alike where the facts stand.

    Each term has a place, counted from 0. Terms that must be alike have one head: the place of one of them.
    - works: for each place the term's name and the places of its parts;
    - heads: for each place its head;
    - told: the facts as (word, place, place).
    """

    def __init__(self, facts):
        for fact in facts:
            need_fact(fact)
        self.works = []
        self.heads = []
        # For each head: the places that have it, and the places of the terms of which a part has it.
        self._members = []
        self._users = []
        # For each name with the heads of parts: a place of a term that is made so. Places stand here instead of
        # terms, which may be deeper than a key may be. What tells of a head that is none any more is never met again.
        self._made = {}
        self.told = []
        for word, first, second in facts:
            self.told.append((word, self._place(first), self._place(second)))
        self._close()

    def can_stand(self):
        """Tell whether the facts can stand together."""
        for word, first, second in self.told:
            if word in ("unlike", "over") and self.heads[first] == self.heads[second]:
                return False
        return True

    def above(self):
        """Tell for each head the other heads that facts tell it to be at most, or to be below."""
        rows = {head: [] for head in sorted(set(self.heads))}
        for low, high in self._at_mosts():
            if self.heads[low] != self.heads[high]:
                rows[self.heads[low]].append(self.heads[high])
        return rows

    def _place(self, term):
        """Tell the place of a term; give it one, behind those of its parts, where it has none."""
        parts = tuple([self._place(part) for part in term[1:]])
        work = (term[0], parts)
        if work not in self._made:
            place = len(self.works)
            self._made[work] = place
            self.works.append(work)
            self.heads.append(place)
            self._members.append([place])
            self._users.append([])
            for part in parts:
                self._users[part].append(place)
        return self._made[work]

    def _close(self):
        for word, first, second in self.told:
            if word == "alike":
                self._make_alike(first, second)
        pairs = self._rings()
        # What is made alike may close further rings, so this ends only where there is none left.
        while pairs:
            for first, second in pairs:
                self._make_alike(first, second)
            pairs = self._rings()

    def _at_mosts(self):
        """Tell the pairs of places of which the first term is at most the second one."""
        pairs = []
        for word, first, second in self.told:
            if word == "most":
                pairs.append((first, second))
            # Above is the other one's at most, too. If it stands in a ring, its terms are made alike, which it forbids.
            if word == "over":
                pairs.append((second, first))
        return pairs

    def _rings(self):
        """Tell the at mosts that stand in a ring, but none whose terms are alike already."""
        above = self.above()
        heads = self.heads
        pairs = [(low, high) for low, high in self._at_mosts() if heads[low] != heads[high]]
        return [(low, high) for low, high in pairs if _leads(above, heads[high], heads[low])]

    def _make_alike(self, first, second):
        waiting = [(first, second)]
        while waiting:
            one, other = waiting.pop()
            if self.heads[one] != self.heads[other]:
                waiting.extend(self._made_one(self.heads[one], self.heads[other]))

    def _made_one(self, kept, lost):
        """Make one head of two; tell the pairs of terms whose parts are alike by that."""
        if len(self._members[kept]) < len(self._members[lost]):
            kept, lost = lost, kept
        for place in self._members[lost]:
            self.heads[place] = kept
        self._members[kept].extend(list(self._members[lost]))
        pairs = []
        for place in self._users[lost]:
            name, parts = self.works[place]
            work = (name, tuple([self.heads[part] for part in parts]))
            pairs.append((self._made.setdefault(work, place), place))
        self._users[kept].extend(list(self._users[lost]))
        return pairs


def _leads(above, start, goal):
    """Tell whether one goes up from a head to another one."""
    seen = {start}
    waiting = [start]
    while waiting:
        head = waiting.pop()
        for higher in above[head]:
            if higher not in seen:
                seen.add(higher)
                waiting.append(higher)
    return goal in seen
