"""Wishes at random, within the limits of made programs."""

from math import lcm

from outofwishes.wishes import Wish

OUTPUTS = ["x", "y", "z"]


def _caps(many):
    """The greatest coefficient of rows and bys, of sames, the greatest m, and the greatest multiple of all m."""
    return {0: (0, 0, 6, 12), 1: (9, 9, 6, 12), 2: (3, 5, 4, 4), 3: (1, 5, 1, 1)}[many]


class Draws:
    """A wish that is being drawn: its cases, and the multiple of all m so far."""

    def __init__(self, chance, outputs):
        self.chance = chance
        self.inputs = ["a", "b"][:chance.randint(0, 2)]
        many = chance.choice([0, 1, 1, 1, 2, 2, 2, 3]) if outputs is None else outputs
        self.outputs = OUTPUTS[:many]
        self.most, self.most_in_sames, self.most_m, self.most_in_all = _caps(many)
        self.whole = 1
        self.cases = chance.choice([1, 1, 2, 3]) if many < 3 else 1
        self.has_same = [chance.random() < 0.3 for _ in range(self.cases)]
        if many == 2 and self.cases > 1 and not all(self.has_same):
            self.most_in_all = 2

    def parts(self, most):
        """Coefficients of the outputs, not all 0 if there are any."""
        while True:
            found = {name: self.chance.randint(-most, most) for name in self.outputs}
            if not found or any(found.values()):
                return found

    def by(self, term):
        many = self.chance.choice([many for many in range(1, self.most_m + 1) if lcm(many, self.whole) <= self.most_in_all])
        self.whole = lcm(many, self.whole)
        return ("by", many, term)

    def wish(self, cases):
        bodies = [("all", case) for case in cases]
        return Wish(self.inputs, self.outputs, bodies[0] if len(bodies) == 1 else ("any", bodies))


def any_wish(chance, outputs=None):
    """A wish whose tests have nothing to do with one another."""
    draws = Draws(chance, outputs)
    most = chance.choice([3, 10, 100, 1000])
    cases = []
    for has_same in draws.has_same:
        case = []
        for at in range(chance.randint(1, 6)):
            is_same = at == 0 and has_same
            kind = "same" if is_same else chance.choice(["row"] * 5 + ["by"] * (len(draws.outputs) < 3))
            parts = draws.parts(draws.most_in_sames if is_same else draws.most)
            inputs = {name: chance.randint(-9, 9) for name in draws.inputs if chance.random() < 0.7}
            term = ({**parts, **inputs}, chance.randint(-most, most))
            case.append(draws.by(term) if kind == "by" else (kind, term))
        cases.append(case)
    return draws.wish(cases)


def strip_wish(chance, outputs=None):
    """A wish whose rows lie near a centre that goes with the inputs: thin, so that there often is nothing, or little."""
    draws = Draws(chance, outputs)
    cases = []
    for has_same in draws.has_same:
        centre = {name: {other: chance.randint(-3, 3) for other in draws.inputs} for name in draws.outputs}
        if len(draws.outputs) == 1:
            centre = {name: {other: chance.randint(-1, 1) for other in draws.inputs} for name in draws.outputs}
        case = []
        for at in range(chance.choice([2, 4, 6])):
            is_same = at == 0 and has_same
            parts = draws.parts(draws.most_in_sames if is_same else draws.most)
            inputs = {}
            for other in draws.inputs:
                near = -sum(parts[name] * centre[name][other] for name in parts) + chance.choice([0, 0, 0, 1, -1])
                inputs[other] = max(-9, min(9, near))
            if not is_same and len(draws.outputs) < 3 and chance.random() < 0.15:
                case.append(draws.by(({**parts, **inputs}, chance.randint(-5, 5))))
            else:
                case.append(("same" if is_same else "row", ({**parts, **inputs}, chance.randint(-2, chance.choice([1, 3, 8])))))
        cases.append(case)
    return draws.wish(cases)
