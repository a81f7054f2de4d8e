"""Tests and anys together: a whole point, or a proof that there is none."""

from math import lcm

from outofwishes.bodies import is_so
from outofwishes.flats import flat, flatten
from outofwishes.lattices import narrowed, whole_lattice
from outofwishes.narrow import Narrowing
from outofwishes.proofs import any_of, leaf, needs_some, told_paper
from outofwishes.tableaus import Tableau
from outofwishes.vectors import fact_of, numbers_of


class Marks:
    """Marks for tests and anys, each given once."""

    def __init__(self):
        self.given = 0

    def fresh(self):
        """A mark that was not given before."""
        self.given = self.given + 1
        return self.given


class Known:
    """What tests come to so far: their points without rows, their loose points, their rows, all their m together."""

    def __init__(self, lattice, tableau, rows, period):
        self.lattice = lattice
        self.tableau = tableau
        self.rows = rows
        self.period = period


def nothing_known(many):
    """What no tests of so many names come to."""
    return Known(whole_lattice(many), Tableau(many), [], 1)


def known_with(known, facts):
    """The pair of what tests come to with more of them and None, or None and a proof that they bar each point."""
    lattice = known.lattice
    period = known.period
    for fact in facts:
        if fact.kind != "row":
            lattice, gauge = narrowed(lattice, fact)
            if gauge is not None:
                return (None, leaf("gauge", gauge))
            lattice = lattice.shortened()
            period = lcm(period, max(fact.many, 1))
    tableau = known.tableau.twin()
    for fact in facts:
        if fact.kind != "by":
            below = tableau.take(fact)
            if below is not None:
                return (None, leaf("sum", below))
    below = tableau.settle()
    if below is not None:
        return (None, leaf("sum", below))
    rows = known.rows + [fact for fact in facts if fact.kind == "row"]
    return (Known(lattice, tableau, rows, period), None)


class Branch:
    """What comes of one body of an any: the marks of its tests and of its anys, what is known, or a proof."""

    def __init__(self, tests, anys, known, proof):
        self.tests = tests
        self.anys = anys
        self.known = known
        self.proof = proof


class Search:
    """The search for a point of tests and anys over names."""

    def __init__(self, names):
        self.order = names
        self.marks = Marks()

    def marked(self, tests, anys):
        """Facts of tests, and anys, all under fresh marks."""
        facts = [fact_of(self.marks.fresh(), test, self.order) for test in tests]
        return (facts, [(self.marks.fresh(), bodies) for bodies in anys])

    def _branch(self, known, body):
        """What comes of a body, put to what is known."""
        tests, anys = [], []
        flatten(body, tests, anys)
        facts, marked = self.marked(tests, anys)
        more, proof = known_with(known, facts)
        return Branch([fact.mark for fact in facts], marked, more, proof)

    def _branches_of_one(self, known, broken):
        """Of some anys the one with the fewest bodies that are not barred at once, with its branches."""
        best = None
        for mark, bodies in broken:
            branches = [self._branch(known, body) for body in bodies]
            alive = len([branch for branch in branches if branch.proof is None])
            if best is None or alive < best[0]:
                best = (alive, mark, branches)
            if alive <= 1:
                break
        return best[1:]

    def decide(self, known, anys):
        """The pair of a point and None, or None and a proof."""
        narrowing = Narrowing(known.lattice, known.tableau, known.rows, known.period, self.marks)
        point, proof = narrowing.run()
        if proof is not None:
            return (None, proof)
        numbers = numbers_of(point, self.order)
        broken = [one for one in anys if not is_so(("any", one[1]), numbers)]
        if len(broken) == 0:
            return (point, None)
        mark, branches = self._branches_of_one(known, broken)
        return self._decide_branches([one for one in anys if one[0] != mark], mark, branches)

    def _decide_branches(self, others, mark, branches):
        """The pair of a point of some branch and None, or None and a proof that none has any."""
        proofs = []
        for branch in branches:
            point, proof = None, branch.proof
            if proof is None:
                point, proof = self.decide(branch.known, others + branch.anys)
            marks = branch.tests + [one[0] for one in branch.anys]
            if point is not None or not needs_some(proof, marks):
                return (point, proof)
            proofs.append(proof)
        return (None, any_of(mark, [(branch.tests, [one[0] for one in branch.anys]) for branch in branches], proofs))


class Answer:
    """What a search came to: a point of all names, told, or a proof, and the marks of the flat system."""

    def __init__(self, names, point, proof, tests, anys):
        self.order = names
        self.point = point
        self.proof = proof
        self.tests = tests
        self.anys = anys


def answer_of(system):
    """What the search for a point of a system comes to."""
    tests, anys = flat(system)
    names = system.names()
    search = Search(names)
    facts, marked = search.marked(tests, anys)
    known, proof = known_with(nothing_known(len(names)), facts)
    point = None
    if proof is None:
        point, proof = search.decide(known, marked)
    if point is not None:
        point = numbers_of(point, names)
    return Answer(names, point, proof, [fact.mark for fact in facts], [one[0] for one in marked])


def told_answer(answer):
    """The told paper of an answer, None if it is a point."""
    if answer.proof is None:
        return None
    return told_paper(answer.proof, answer.tests, answer.anys, answer.order)
