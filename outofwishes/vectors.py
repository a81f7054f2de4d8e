"""Vectors: lists of integers, one for each name of a system, in its order; and facts: tests as vectors."""

from outofwishes.bodies import term_of


def dot(one, other):
    """The sum of the products of two vectors."""
    return sum([a * b for a, b in zip(one, other)])


def stepped(vector, times, step):
    """A vector, and a step so many times, added."""
    return [a + times * b for a, b in zip(vector, step)]


def unit_vectors(many):
    """The vectors that are 1 at one place and 0 elsewhere, in order."""
    return [[1 if at == place else 0 for at in range(many)] for place in range(many)]


def vector_of(coefficients, names):
    """The vector of a dict of numbers; 0 for a name that it lacks."""
    return [coefficients.get(name, 0) for name in names]


def numbers_of(vector, names):
    """The told dict of a vector."""
    found = {name: number for name, number in zip(names, vector)}
    return {name: found[name] for name in sorted(names)}


class Fact:
    """A test under a mark: its kind, its m (0 if it has none), and its term as a vector and a constant."""

    def __init__(self, mark, kind, many, vector, constant):
        self.mark = mark
        self.kind = kind
        self.many = many
        self.vector = vector
        self.constant = constant


def fact_of(mark, test, names):
    """The fact that a test over these names is."""
    term = term_of(test)
    many = test[1] if test[0] == "by" else 0
    return Fact(mark, test[0], many, vector_of(term[0], names), term[1])


def facts_of(tests, names):
    """The facts that tests are, each under its index."""
    return [fact_of(mark, test, names) for mark, test in enumerate(tests)]
