"""[7.1] to [7.5]: loose points, sums, the least over fractions, quarrels."""

import unittest
from fractions import Fraction

from outofwishes.errors import BadSystem, BadTerm, NotLoose, StrangeName
from outofwishes.flats import flat
from outofwishes.loose import (
    is_loose_least, is_loose_point, is_loose_sum, loose_least, loose_point, loose_quarrel, loose_sum,
)
from outofwishes.terms import tidy
from outofwishes.wholes import paper_of, point_of
from outofwishes.wishes import System
from tests.checks import (
    are_numbers, bent, combined, figures, fraction_of, loose_point_is_right, objects_to_refuse, some_bent, sum_fractions,
    sum_is_right, told_again,
)
from tests.samples import X, Y, any_term, chances, objects, shape, swapped

XY = ["x", "y"]
SUM = ({"x": 1, "y": 1}, 0)
ASKED = [
    loose_point, loose_sum, loose_quarrel, lambda system: is_loose_point(system, None), lambda system: is_loose_sum(system, None),
    lambda system: loose_least(system, None), lambda system: is_loose_least(system, None, None),
]


def row(x, y, constant):
    return ("row", ({"x": x, "y": y}, constant))


def same(x, y, constant):
    return ("same", ({"x": x, "y": y}, constant))


EXAMPLE = [row(2, 3, -6), X, Y]


def any_loose_system(chance, most_names=4, most=4, most_tests=7, constant=9):
    names = chance.sample(["x", "y", "z", "a", "b", "c", "d", "e", "f", "g"], chance.randint(0, most_names))
    bodies = []
    for _ in range(chance.randint(0, most_tests)):
        coefficients = {name: chance.randint(-most, most) for name in chance.sample(names, chance.randint(0, len(names)))}
        bodies.append((chance.choice(["row", "row", "row", "same"]), (coefficients, chance.randint(-constant, constant))))
        if chance.random() < 0.2:
            bodies.append(("row", ({name: -number for name, number in coefficients.items()}, chance.randint(-constant, constant))))
    if chance.random() < 0.2:
        bodies = [("all", bodies[:2])] + [("not", ("not", body)) for body in bodies[2:]]
    return System(names, bodies)


def value(term, numbers):
    return term[1] + sum(number * numbers[name] for name, number in term[0].items() if number != 0)


def least_is_right(system, term, thing):
    """Whether any object is one of the three for a system and a term, by adding up and putting in."""
    if type(thing) not in (list, tuple) or len(thing) == 0 or type(thing[0]) is not str:
        return False
    tests, names = flat(system)[0], system.names()
    if thing[0] == "none" and len(thing) == 2:
        return sum_is_right(tests, thing[1])
    if thing[0] == "least" and len(thing) == 4:
        number, fractions = fraction_of(thing[1]), sum_fractions(tests, thing[3])
        if number is None or fractions is None or not loose_point_is_right(tests, names, thing[2]):
            return False
        if value(term, {name: fraction_of(thing[2][name]) for name in names}) != number:
            return False
        return combined(tests, fractions) == ({name: part for name, part in term[0].items() if part != 0}, term[1] - number)
    if thing[0] == "falls" and len(thing) == 3:
        if not loose_point_is_right(tests, names, thing[1]) or not are_numbers(thing[2], names):
            return False
        changes = [(test[0], value((test[-1][0], 0), thing[2])) for test in tests]
        kept = all(change == 0 if kind == "same" else change >= 0 for kind, change in changes)
        return kept and value((term[0], 0), thing[2]) < 0
    return False


class TheExample(unittest.TestCase):
    def test_least(self):
        system = System(XY, EXAMPLE)
        told = loose_least(system, SUM)
        self.assertEqual(told[:2], ("least", (2, 1)))
        self.assertTrue(least_is_right(system, SUM, told))
        thing = ("least", (2, 1), {"x": (0, 1), "y": (2, 1)}, [(1, 3), (1, 3), (0, 1)])
        self.assertIs(is_loose_least(system, SUM, thing), True)
        falling = loose_least(system, ({"x": 1, "y": -1}, 0))
        self.assertEqual(falling[0], "falls")
        self.assertIs(is_loose_least(system, ({"x": 1, "y": -1}, 0), falling), True)
        self.assertIs(is_loose_least(system, ({"x": 1, "y": -1}, 0), ("falls", thing[2], {"x": 0, "y": 1})), True)

    def test_sum_and_quarrel(self):
        system = System(XY, EXAMPLE + [row(-1, -1, 1)])
        self.assertIsNone(loose_point(system))
        self.assertIs(is_loose_sum(system, [(1, 3), (1, 3), (0, 1), (1, 1)]), True)
        self.assertTrue(sum_is_right(EXAMPLE + [row(-1, -1, 1)], loose_sum(system)))
        self.assertEqual(loose_quarrel(system), [0, 1, 3])
        self.assertEqual(loose_least(system, SUM)[0], "none")
        self.assertIs(is_loose_point(System(XY, [EXAMPLE[0], Y, row(-1, -1, 1)]), {"x": (-3, 1), "y": (4, 1)}), True)

    def test_loose_points_and_no_point(self):
        system = System(XY, [row(3, -3, -1), row(-3, 3, 2)])
        self.assertTrue(loose_point_is_right(flat(system)[0], XY, loose_point(system)))
        self.assertIsNone(loose_sum(system))
        self.assertIsNone(point_of(system))


class Errors(unittest.TestCase):
    def test_not_loose(self):
        by = ("by", 2, ({"x": 1}, 0))
        for bodies, index in [
            ([by], 0), ([X, Y, by, by], 2), ([("any", [X, Y])], 0), ([X, ("any", []), Y], 2), ([("any", [by]), X], 0), ([("not", by)], 0),
            ([("all", [X, ("all", [Y, ("any", [X, by])])])], 2), ([X, ("not", ("same", ({"x": 1}, 0)))], 1), ([("any", [X, Y]), X, by], 1),
            ([("by", 1, ({}, 0))], 0), ([("not", ("by", 1, ({}, 0)))], 0),
        ]:
            for ask in ASKED:
                with self.assertRaises(NotLoose) as caught:
                    ask(System(XY, bodies))
                self.assertEqual(shape(caught.exception.index), shape(index), bodies)

    def test_nowhere_else(self):
        system = System(XY, [("by", 2, ({"x": 1}, 1)), ("by", 2, ({"x": 1}, 0)), ("any", [X, Y])])
        self.assertIsNone(point_of(system))
        self.assertIsNotNone(paper_of(system))

    def test_bad_system_ahead(self):
        for thing in objects() + [EXAMPLE, (XY, EXAMPLE)]:
            if not isinstance(thing, System):
                for ask in ASKED:
                    with self.assertRaises(BadSystem) as caught:
                        ask(thing)
                    self.assertIs(caught.exception.system, thing)

    def test_bad_term(self):
        system = System(XY, EXAMPLE)
        for term in objects():
            for ask in [lambda: loose_least(system, term), lambda: is_loose_least(system, term, None)]:
                with self.assertRaises(BadTerm) as caught:
                    ask()
                self.assertIs(caught.exception.term, term)

    def test_strange_name(self):
        for names, term, name in [(XY, ({"z": 1, "a": 1, "b": 0}, 0), "a"), ([], ({"x": 1}, 0), "x"), (["b"], ({"z": 1, "c": 0, "b": 1}, 0), "z")]:
            for ask in [loose_least, lambda system, term: is_loose_least(system, term, None)]:
                with self.assertRaises(StrangeName) as caught:
                    ask(System(names, []), term)
                self.assertEqual(caught.exception.name, name)
        self.assertEqual(loose_least(System([], []), ({"q": 0}, -3)), ("least", (-3, 1), {}, []))


class JustOne(unittest.TestCase):
    def look_through(self, system):
        """A loose point or a sum, looked through; told is which."""
        tests, names = flat(system)[0], system.names()
        point = loose_point(system)
        if point is not None:
            point = told_again(self, lambda: loose_point(system))
            self.assertEqual(list(point), sorted(names))
            self.assertTrue(loose_point_is_right(tests, names, point))
            for fraction in point.values():
                self.assertEqual(shape(fraction), shape(Fraction(*fraction).as_integer_ratio()))
            self.assertIsNone(loose_sum(system))
            self.assertIs(is_loose_point(thing=swapped(point), system=system), True)
        else:
            told = told_again(self, lambda: loose_sum(system))
            self.assertIs(type(told), list)
            self.assertTrue(sum_is_right(tests, told))
            self.assertLessEqual(len([part for part in told if part[0] != 0]), len(names) + 1)
            self.assertEqual(shape(told), shape([Fraction(*part).as_integer_ratio() for part in told]))
            self.assertIs(is_loose_sum(thing=swapped(told), system=system), True)
        return point is not None

    def test_at_random(self):
        found = {True: 0, False: 0}
        for chance in chances(300):
            found[self.look_through(any_loose_system(chance))] += 1
        self.assertGreater(min(found.values()), 60)

    def test_ten_names_and_twenty_tests(self):
        for chance in chances(40, 1):
            names = ["x", "y", "z", "a", "b", "c", "d", "e", "f", "g"]
            tests = [("row", any_term(chance, names, 1000)) for _ in range(17)] + [("same", any_term(chance, names, 1000)) for _ in range(3)]
            for system in [System(names, tests), System(names, tests + [("row", ({name: -1 for name in names}, -10 ** 15))] + [("row", ({name: 1}, 0)) for name in names])]:
                self.look_through(system)
                end = loose_least(system, any_term(chance, names, 9))
                self.assertLess(figures(end), 1000)

    def test_edges(self):
        zero = ({}, 0)
        for bodies, loosely in [
            ([], True), ([("row", zero), ("same", zero)], True), ([("row", ({}, -1))], False), ([("same", ({}, 1))], False), ([("same", ({}, -1))], False),
            ([("row", ({}, 10 ** 15)), ("row", ({}, -10 ** 15))], False), ([("all", [])], True), ([("not", ("any", []))], True),
        ]:
            for names in [[], ["x"], ["y", "x"]]:
                self.assertIs(self.look_through(System(names, bodies)), loosely)
        self.assertIs(is_loose_point(System([], []), {}), True)
        self.assertIs(is_loose_sum(System([], []), []), False)
        for bodies, loosely in [
            ([same(1, 1, -1), same(2, 2, -2), same(1, -1, 0)], True), ([same(1, 1, -1), same(2, 2, -3)], False), ([same(1, 1, -1), row(1, 1, -2)], False),
            ([row(1, 0, -10 ** 15), row(-1, 0, 10 ** 15)], True), ([row(1, 0, -10 ** 15), row(-1, 0, 10 ** 15 - 1)], False), ([row(2, 0, -1), row(-2, 0, 1)], True),
        ]:
            self.assertIs(self.look_through(System(XY, bodies)), loosely)

    def test_the_same_for_what_means_the_same(self):
        one, other = System(XY, EXAMPLE), System(tuple(XY), tuple(swapped([*EXAMPLE[:2], ("row", ({"y": 1, "z": 0}, 0))])))
        self.assertEqual(shape(loose_point(one)), shape(loose_point(system=other)))
        self.assertEqual(shape(loose_least(one, SUM)), shape(loose_least(term=[{"q": 0, "y": 1, "x": 1}, 0], system=other)))
        one, other = [System(XY, bodies + [row(-1, -1, 1)]) for bodies in (EXAMPLE, list(swapped(EXAMPLE)))]
        self.assertEqual(shape(loose_sum(one)), shape(loose_sum(system=other)))
        self.assertEqual(loose_quarrel(one), loose_quarrel(system=other))


class Whatever(unittest.TestCase):
    def test_points(self):
        system = System(XY, EXAMPLE + [same(1, -2, 0)])
        for point in [{"x": (2, 1), "y": (1, 1)}, {"x": (10, 4), "y": [5, 4]}, {"y": (6, 7), "x": (12, 7)}, {"x": [10 ** 30, 1], "y": (10 ** 30, 2)}]:
            self.assertIs(is_loose_point(system, point), True)
        for point in [
            {"x": (2, 1), "y": (2, 1)}, {"x": (1, 1), "y": (1, 2)}, {"x": 2, "y": 1}, {"x": (2, 1)}, {"x": (2, 1), "y": (1, 1), "z": (0, 1)}, {"x": (2, 1), "z": (1, 1)},
            {"x": (-2, -1), "y": (1, 1)}, {"x": (2, 0), "y": (1, 0)}, {"x": (2, True), "y": (1, 1)}, {"x": (2, 1), "y": (True, 1)}, {"x": (2, 1), "y": (1, 1, 1)},
            {"x": (2, 1), "y": "11"}, {"x": (2, 1), "y": None}, {"x": (2, 1), "y": (1,)}, {"x": (2, 1), 1: (1, 1)}, [("x", (2, 1)), ("y", (1, 1))],
        ]:
            self.assertIs(is_loose_point(system, point), False, point)
        for other in bent({"x": (2, 1), "y": (1, 1)}):
            self.assertIs(is_loose_point(system, other), loose_point_is_right(flat(system)[0], XY, other), other)

    def test_sums(self):
        bodies = EXAMPLE + [row(-1, -1, 1), same(2, 2, 0), row(0, 0, 3)]
        system = System(XY, bodies)
        for thing in [
            [(1, 3), (1, 3), (0, 1), (1, 1), (0, 1), (0, 1)], ([2, 6], (2, 6), (0, 5), (3, 3), (0, 9), (0, 1)), [(2, 1), (0, 1), (0, 1), (4, 1), (0, 1), (0, 1)],
            [(4, 12), (5, 15), (0, 1), (7, 6), (1, 12), (0, 7)], [(1, 3), (1, 3), (0, 1), (0, 1), (-1, 2), (0, 1)], [(1, 3), (1, 3), (0, 1), (0, 1), (-1, 2), (1, 4)],
            [(0, 1), (1, 1), (1, 1), (1, 1), (0, 1), (0, 1)], [(1, 3), (1, 3), (0, 1), (0, 1), (-1, 2), (2, 3)], [(1, 3), (1, 3), (0, 1), (0, 1), (1, 2), (0, 1)],
        ]:
            self.assertIs(is_loose_sum(system, thing), sum_is_right(bodies, thing), thing)
        for thing in [[(1, 3), (1, 3), (0, 1), (1, 1), (0, 1)], [(1, 3), (1, 3), (0, 1), (1, 1), (0, 1), (0, 1), (0, 1)], [(1, 3), (1, 3), (0, -1), (1, 1), (0, 1), (0, 1)]]:
            self.assertIs(is_loose_sum(system, thing), False)
        for chance in chances(40, 2):
            system = any_loose_system(chance)
            told = loose_sum(system)
            for other in [] if told is None else some_bent(told, chance, 60):
                self.assertIs(is_loose_sum(system, other), sum_is_right(flat(system)[0], other), other)

    def test_any_object(self):
        for system in [System(XY, EXAMPLE), System([], []), System([], [("row", ({}, -1))]), System(["x"], [X])]:
            for thing in objects() + objects_to_refuse():
                right = loose_point_is_right(flat(system)[0], system.names(), thing)
                self.assertIs(is_loose_point(system, thing), right)
                self.assertEqual(right, thing == {} and system.names() == [] and system.bodies() == [])
                self.assertIs(is_loose_sum(system, thing), False)
                self.assertIs(is_loose_least(system, ({}, 0), thing), False)

    def test_judged_anew(self):
        system, point = System(XY, EXAMPLE), {"x": [0, 1], "y": [2, 1]}
        self.assertIs(is_loose_point(system, point), True)
        point["y"][0] = 1
        self.assertIs(is_loose_point(system, point), False)
        thing = ["least", [2, 1], {"x": (0, 1), "y": [2, 1]}, [[1, 3], [1, 3], (0, 1)]]
        self.assertIs(is_loose_least(system, SUM, thing), True)
        thing[3][0][1] = 2
        self.assertIs(is_loose_least(system, SUM, thing), False)


class JustOneOfThree(unittest.TestCase):
    def test_at_random(self):
        found = {"least": 0, "falls": 0, "none": 0}
        for chance in chances(300, 3):
            system = any_loose_system(chance)
            names = system.names()
            term = any_term(chance, names, 9) if names else ({}, chance.randint(-9, 9))
            if chance.random() < 0.4:
                times = [(test[-1], chance.randint(0, 2)) for test in flat(system)[0]]
                term = ({name: sum(many * one[0].get(name, 0) for one, many in times) for name in names}, chance.randint(-9, 9))
            told = told_again(self, lambda: loose_least(system, term))
            found[told[0]] += 1
            self.assertIs(type(told), tuple)
            self.assertTrue(least_is_right(system, term, told), told)
            for thing in [told, swapped(told)]:
                self.assertIs(is_loose_least(system=system, term=swapped(term), thing=thing), True)
            self.assertEqual(told[0] == "none", loose_point(system) is None)
            self.assertEqual(told[0] == "none" and told[1], told[0] == "none" and loose_sum(system))
            if told[0] == "least":
                self.assertLessEqual(len([part for part in told[3] if part[0] != 0]), len(names))
                self.assertEqual(told[1], Fraction(*told[1]).as_integer_ratio())
                more = loose_least(System(names, system.bodies()[::-1] + [("row", ({}, 0))]), tidy(term))
                self.assertEqual(more[:2], told[:2])
                less_system = System(names, system.bodies() + [("row", ({name: -told[1][1] * part for name, part in term[0].items()}, told[1][0] - told[1][1] * term[1] - 1))])
                self.assertIsNone(loose_point(less_system))
        self.assertGreater(min(found.values()), 30)

    def test_of_whatever(self):
        for chance in chances(60, 4):
            system = any_loose_system(chance, 3)
            term = any_term(chance, system.names(), 3) if system.names() else ({}, 2)
            told = loose_least(system, term)
            for other in some_bent(told, chance, 60):
                self.assertIs(is_loose_least(system, term, other), least_is_right(system, term, other), other)

    def test_one_is_not_another(self):
        system = System(XY, EXAMPLE)
        point = {"x": (0, 1), "y": (2, 1)}
        for term, thing, right in [
            (SUM, ("least", (4, 2), {"x": (0, 1), "y": [4, 2]}, [(2, 6), (1, 3), (0, 1)]), True), (SUM, ("least", (2, 1), {"x": (2, 1), "y": (0, 1)}, [(1, 3), (1, 3), (0, 1)]), False),
            (SUM, ("least", (2, 1), point, [(0, 1), (1, 1), (1, 1)]), False), (SUM, ("least", (0, 1), {"x": (0, 1), "y": (0, 1)}, [(0, 1), (1, 1), (1, 1)]), False),
            (SUM, ("least", (3, 1), {"x": (0, 1), "y": (3, 1)}, [(1, 3), (1, 3), (0, 1)]), False), (SUM, ("least", 2, point, [(1, 3), (1, 3), (0, 1)]), False),
            (SUM, ("falls", point, {"x": 0, "y": 1}), False), (({"y": -1}, 0), ("falls", point, {"x": 0, "y": 1}), True), (({"y": -1}, 0), ("falls", point, {"x": 0, "y": 0}), False),
            (({"x": -1}, 0), ("falls", point, {"x": 1, "y": -1}), False), (({"x": -1}, 0), ("falls", point, {"x": 3, "y": 0}), True), (({"x": -1}, 0), ("falls", point, {"x": 1}), False),
            (({"x": -1}, 0), ("falls", {"x": (0, 1), "y": (0, 1)}, {"x": 1, "y": 0}), False), (({"x": -1}, 0), ("falls", point, {"x": True, "y": 0}), False),
            (({"x": -1}, 0), ("falls", point, {"x": (1, 1), "y": (0, 1)}), False), (SUM, ("none", [(1, 1), (0, 1), (0, 1)]), False), (SUM, ("none", []), False),
        ]:
            self.assertIs(is_loose_least(system, term, thing), right, thing)
            self.assertIs(least_is_right(system, term, thing), right, thing)


class Quarrels(unittest.TestCase):
    def test_least_by_themselves(self):
        many = 0
        for chance in chances(200, 5):
            system = any_loose_system(chance, 4, 3, 9, 6)
            tests, names = flat(system)[0], system.names()
            told = loose_quarrel(system)
            self.assertEqual(told is None, loose_point(system) is not None)
            if told is not None:
                many += 1
                told = told_again(self, lambda: loose_quarrel(system))
                self.assertEqual(shape(told), shape(sorted(set(told))))
                self.assertLessEqual(len(told), len(names) + 1)
                self.assertIsNone(loose_point(System(names, [tests[index] for index in told])))
                for index in told:
                    others = System(names, [tests[other] for other in told if other != index])
                    self.assertTrue(loose_point_is_right(flat(others)[0], names, loose_point(others)))
        self.assertGreater(many, 50)

    def test_of_doubles_and_single_ones(self):
        for bodies, found in [
            ([X, X, row(-1, 0, -1)], [[0, 2], [1, 2]]), ([X, ("row", ({}, -1)), Y], [[1]]), ([same(1, 0, 0), same(1, 0, -1), same(1, 0, -2)], [[0, 1], [0, 2], [1, 2]]),
            ([same(1, 1, 0), row(-1, 0, 5), row(0, -1, -6), row(1, 0, -9), row(0, 1, 3)], [[1, 3], [2, 4], [0, 3, 4], [0, 1, 2]]), ([("all", [X, Y]), ("row", ({"x": -1, "y": -1}, -1))], [[0, 1, 2]]),
        ]:
            self.assertIn(loose_quarrel(System(XY, bodies)), found)
