"""What the document says of worlds, reckoned by trying numbers: no closing, and nothing of the program's but the texts.

A world gives each term a number, like ones to terms of one work with like parts; and wherever numbers are given so,
there is a world that gives them. Of n terms only the order of their numbers matters to facts, so that the numbers
below n are enough.
"""

import random

from alikeboard.facts import read_fact
from alikeboard.terms import read

WORDS = ("alike", "unlike", "most", "over")
OPPOSITES = {"alike": "unlike", "unlike": "alike", "most": "over", "over": "most"}


def facts_of(*texts):
    return [read_fact(text) for text in texts]


def term_of(text):
    return read(text)


def against(fact):
    return (OPPOSITES[fact[0]], fact[1], fact[2])


def terms_in(facts):
    """All terms that stand in facts, parts too, each once and behind its parts."""
    found = []

    def gather(term):
        for part in term[1:]:
            gather(part)
        if term not in found:
            found.append(term)

    for _, first, second in facts:
        gather(first)
        gather(second)
    return found


def stands(word, first, second):
    """Whether a fact of such a word stands between two numbers."""
    return {"alike": first == second, "unlike": first != second, "most": first <= second, "over": first > second}[word]


def can_stand(facts):
    """Whether there are numbers for all terms, such that all facts stand."""
    terms = terms_in(facts)
    numbers = {}

    def fitting(works):
        at = len(numbers)
        if at == len(terms):
            return True
        term = terms[at]
        work = (term[0], *(numbers[part] for part in term[1:]))
        ready = [fact for fact in facts if term in fact[1:] and all(x in numbers or x == term for x in fact[1:])]
        for number in [works[work]] if work in works else range(len(terms)):
            numbers[term] = number
            if all(stands(word, numbers[s], numbers[t]) for word, s, t in ready) and fitting({**works, work: number}):
                return True
            del numbers[term]
        return False

    return fitting({})


def follows(facts, fact):
    return not can_stand([*facts, against(fact)])


def fact_lists(seed, many, lengths, texts, words=WORDS):
    """Lists of facts between the terms of some texts, the same ones in each run."""
    chosen = random.Random(seed)
    terms = [read(text) for text in texts]
    for _ in range(many):
        length = chosen.choice(lengths)
        yield [(chosen.choice(words), chosen.choice(terms), chosen.choice(terms)) for _ in range(length)]


def tower(height, core=("a",)):
    for _ in range(height):
        core = ("f", core)
    return core
