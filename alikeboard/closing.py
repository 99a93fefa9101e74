"""Closing: which terms of some facts must be alike, and whether the facts can stand together."""

from alikeboard.facts import need_fact


def stand(facts):
    """Tell whether facts of a list can stand together."""
    return Closing(facts).clash() is None


class Closing:
    """The terms that stand in some facts, parts too, and which of them must be alike where the facts stand.

    Each term has a place, counted from 0, behind those of its parts. Terms that must be alike have one head: the place
    of one of them. Some terms may be asked for, which are looked at like those of the facts.
    - works: for each place the term's name and the places of its parts;
    - heads: for each place its head;
    - told: the facts as (word, place, place);
    - many: how many terms stand in the facts: those of the first places, the others only in what is asked for;
    - asked: the places of the terms that are asked for;
    - merges: rows (lost, kept, first, second, cause), one for each time that two heads were made one: the head that was
      lost, the one that was kept, and the places of two terms that had them and are alike by the cause. A cause has the
      place of the fact that tells so; or that of an at most and those of the facts by which one goes from its high term
      up to its low one; or none, where the terms' parts are alike.
    """

    def __init__(self, facts, asked=()):
        for fact in facts:
            need_fact(fact)
        self.works = []
        self.heads = []
        self.merges = []
        # For each head: the places that have it, and the places of the terms of which a part has it.
        self._members = []
        self._users = []
        # For each name with the heads of parts: a place of a term that is made so. Places stand here instead of
        # terms, which may be deeper than a key may be. What tells of a head that is none any more is never met again.
        self._made = {}
        self.told = []
        for word, first, second in facts:
            self.told.append((word, self._place(first), self._place(second)))
        self.many = len(self.works)
        self.asked = [self._place(term) for term in asked]
        self._close()

    def clash(self):
        """Tell the place of a fact that can't stand, as its terms must be alike, or None where there is none."""
        for at, (word, first, second) in enumerate(self.told):
            if word in ("unlike", "over") and self.heads[first] == self.heads[second]:
                return at
        return None

    def terms(self):
        """Tell the term of each place."""
        found = []
        for name, parts in self.works:
            found.append((name, *[found[part] for part in parts]))
        return found

    def above(self):
        """Tell for each head rows of another one that it is at most, or below, and the place of the fact for that."""
        rows = {head: [] for head in sorted(set(self.heads))}
        for low, high, at in self._at_mosts():
            if self.heads[low] != self.heads[high]:
                rows[self.heads[low]].append((self.heads[high], at))
        return rows

    def way(self, first, second):
        """Tell the places of facts by which one goes up from one term to another, or None where one does not."""
        return _way(self.above(), self.heads[first], self.heads[second])

    def _place(self, term):
        """Tell the place of a term; give it one, behind those of its parts, where it has none."""
        parts = tuple([self._place(part) for part in term[1:]])
        work = (term[0], parts)
        if work not in self._made:
            place = len(self.works)
            self._made[work] = place
            self.works.append(work)
            self.heads.append(place)
            self._members.append([place])
            self._users.append([])
            for part in parts:
                self._users[part].append(place)
        return self._made[work]

    def _close(self):
        for at, (word, first, second) in enumerate(self.told):
            if word == "alike":
                self._make_alike(first, second, (at,))
        rings = self._rings()
        # What is made alike may close further rings, so this ends only where there is none left.
        while rings:
            for low, high, cause in rings:
                self._make_alike(low, high, cause)
            rings = self._rings()

    def _at_mosts(self):
        """Tell rows (low, high, at): by the fact at a place the one term is at most the other one."""
        rows = []
        for at, (word, first, second) in enumerate(self.told):
            if word == "most":
                rows.append((first, second, at))
            # Above is the other one's at most, too. If it stands in a ring, its terms are made alike, which it forbids.
            if word == "over":
                rows.append((second, first, at))
        return rows

    def _rings(self):
        """Tell the at mosts that stand in a ring, each with its cause, but none whose terms are alike already."""
        above = self.above()
        rings = []
        for low, high, at in self._at_mosts():
            if self.heads[low] != self.heads[high]:
                back = _way(above, self.heads[high], self.heads[low])
                if back is not None:
                    rings.append((low, high, (at, *back)))
        return rings

    def _make_alike(self, first, second, cause):
        """Make two terms alike, and all whose parts are alike by that."""
        waiting = [(first, second, cause)]
        while waiting:
            one, other, reason = waiting.pop()
            if self.heads[one] != self.heads[other]:
                waiting.extend(self._made_one(one, other, reason))

    def _made_one(self, first, second, cause):
        """Make the heads of two terms one; tell the terms whose parts are alike by that, in rows with their cause."""
        kept = self.heads[first]
        lost = self.heads[second]
        if len(self._members[kept]) < len(self._members[lost]):
            kept, lost = lost, kept
        self.merges.append((lost, kept, first, second, cause))
        for place in self._members[lost]:
            self.heads[place] = kept
        self._members[kept].extend(list(self._members[lost]))
        rows = []
        for place in self._users[lost]:
            name, parts = self.works[place]
            work = (name, tuple([self.heads[part] for part in parts]))
            rows.append((self._made.setdefault(work, place), place, ()))
        self._users[kept].extend(list(self._users[lost]))
        return rows


def _way(above, start, goal):
    """Tell the places of facts by which one goes up from one head to another, or None where one does not."""
    ways = {start: ()}
    waiting = [start]
    while waiting:
        head = waiting.pop(0)
        for higher, at in above[head]:
            if higher not in ways:
                ways[higher] = (*ways[head], at)
                waiting.append(higher)
    return ways.get(goal)
