"""[9.1] to [9.3]: rays, and just one of three: the least of a term, that it falls, or no point."""

import unittest

from outofwishes.bodies import holds
from outofwishes.errors import BadSystem, BadTerm, StrangeName
from outofwishes.flats import plain
from outofwishes.leasts import is_end, least_of
from outofwishes.wholes import paper_of, point_of
from outofwishes.wishes import System, is_point
from tests.checks import (
    any_system, any_term_of, are_numbers, bent, box, figures, is_int, objects_to_refuse, paper_flaw, points_in, some_bent,
    told_again,
)
from tests.samples import X, Y, chances, objects, shape, swapped

XY = ["x", "y"]
EXAMPLE = [X, Y, ("row", ({"x": 3, "y": 5}, -11))]
EVEN = ("by", 2, ({"y": 1}, 0))
APART = ({"x": 1, "y": -1}, 0)


def row(x, y, constant):
    return ("row", ({"x": x, "y": y}, constant))


def value(term, numbers):
    return term[1] + sum(number * numbers[name] for name, number in term[0].items() if number != 0)


def kept(body, point, ray):
    """Whether a body without "not" is kept from a point along a ray."""
    if body[0] == "all":
        return all(kept(inner, point, ray) for inner in body[1])
    if body[0] == "any":
        return any(kept(inner, point, ray) for inner in body[1])
    change = value((body[-1][0], 0), ray)
    stays = {"row": change >= 0, "same": change == 0, "by": body[0] == "by" and change % body[1] == 0}
    return holds(body, point) and stays[body[0]]


def below(system, term, number):
    """The system with the row that a term is below a number behind its bodies."""
    coefficients = {name: -part for name, part in term[0].items() if part != 0}
    return System(system.names(), system.bodies() + [("row", (coefficients, number - 1 - term[1]))])


def end_is_right(system, term, thing):
    """Whether any object is one of the three for a system and a term, by adding up and putting in."""
    if type(thing) not in (list, tuple) or len(thing) == 0 or type(thing[0]) is not str:
        return False
    if thing[0] == "none" and len(thing) == 2:
        return paper_flaw(system, thing[1]) is None
    if thing[0] == "least" and len(thing) == 4:
        _, number, point, paper = thing
        if not is_int(number) or not is_point(system, point) or value(term, point) != number:
            return False
        return paper_flaw(below(system, term, number), paper) is None
    if thing[0] == "falls" and len(thing) == 3:
        _, point, ray = thing
        if not are_numbers(point, system.names()) or not are_numbers(ray, system.names()):
            return False
        return value((term[0], 0), ray) < 0 and all(kept(plain(body), point, ray) for body in system.bodies())
    return False


class LookedThrough(unittest.TestCase):
    def look_through(self, system, term):
        """What least_of tells, looked through."""
        told = told_again(self, lambda: least_of(system, term))
        self.assertIs(type(told), tuple)
        self.assertTrue(end_is_right(system, term, told), told)
        self.assertIs(is_end(system, term, told), True)
        self.assertIs(is_end(thing=swapped(told), term=swapped(term), system=system), True)
        self.assertLess(figures(told), 1000)
        for numbers in told[1:-1] + told[-1:] * (told[0] == "falls"):
            if type(numbers) is dict:
                self.assertEqual(list(numbers), sorted(system.names()))
        return told


class TheExample(LookedThrough):
    def test_least(self):
        for bodies, number, point in [(EXAMPLE, 7, {"x": 2, "y": 1}), (EXAMPLE + [EVEN], 8, {"x": 4, "y": 0})]:
            told = self.look_through(System(XY, bodies), ({"x": 2, "y": 3}, 0))
            self.assertEqual(told[:2], ("least", number))
            self.assertIs(is_end(System(XY, bodies), ({"x": 2, "y": 3}, 0), (*told[:2], point, told[3])), True)

    def test_falls(self):
        system, even = System(XY, EXAMPLE), System(XY, EXAMPLE + [EVEN])
        for asked in [system, even]:
            self.assertEqual(self.look_through(asked, APART)[0], "falls")
        for asked, start, step, right in [(system, 3, 1, True), (even, 4, 2, True), (even, 4, 1, False), (even, 3, 2, False), (system, 2, 1, False), (system, 3, -1, False), (system, 3, 0, False)]:
            self.assertIs(is_end(asked, APART, ("falls", {"x": 0, "y": start}, {"x": 0, "y": step})), right)

    def test_a_term_of_no_name(self):
        for term, number in [(({"x": 0}, 5), 5), (({}, -10 ** 6), -10 ** 6), (({"q": 0}, 0), 0)]:
            for bodies in [EXAMPLE, [], EXAMPLE + [EVEN]]:
                self.assertEqual(self.look_through(System(XY, bodies), term)[:2], ("least", number))
        self.assertEqual(self.look_through(System([], []), ({}, 3))[:3], ("least", 3, {}))
        self.assertEqual(self.look_through(System([], [("any", [])]), ({}, 3)), ("none", ("any", 0, [])))


class Errors(unittest.TestCase):
    def test_bad_system_ahead(self):
        for thing in objects():
            if not isinstance(thing, System):
                for ask in [lambda: least_of(thing, None), lambda: is_end(thing, None, None)]:
                    with self.assertRaises(BadSystem) as caught:
                        ask()
                    self.assertIs(caught.exception.system, thing)

    def test_bad_term_and_strange_name(self):
        for bodies in [EXAMPLE, [("any", [])]]:
            system = System(XY, bodies)
            for term in objects():
                for ask in [lambda: least_of(system, term), lambda: is_end(system, term, None)]:
                    with self.assertRaises(BadTerm) as caught:
                        ask()
                    self.assertIs(caught.exception.term, term)
            for coefficients, name in [({"z": 1, "a": 1}, "a"), ({"x": 1, "z": 1, "a": 0}, "z"), ({"y2": -1}, "y2")]:
                for ask in [least_of, lambda system, term: is_end(system, term, ("none", None))]:
                    with self.assertRaises(StrangeName) as caught:
                        ask(system, (coefficients, 0))
                    self.assertEqual(caught.exception.name, name)


class JustOneOfThree(LookedThrough):
    def test_at_random(self):
        found = {"least": 0, "falls": 0, "none": 0}
        for chance in chances(200, 1):
            system = any_system(chance, 3, 5, 2, chance.choice([6, 12, 10 ** 6]))
            names = system.names()
            term = any_term_of(chance, names)
            told = self.look_through(system, term)
            found[told[0]] += 1
            self.assertEqual(told[0] == "none", point_of(system) is None)
            if told[0] == "least":
                near = points_in(system, box(names, 4 if len(names) < 3 else 2))
                self.assertTrue(all(value(term, point) >= told[1] for point in near))
                again = least_of(System(names, system.bodies()[::-1]), term)
                self.assertEqual(again[:2], told[:2])
        self.assertGreater(min(found.values()), 20)

    def test_near_0_and_far_off(self):
        great = 10 ** 6
        for bodies, term, number in [
            ([row(1, 0, great), Y, row(0, -1, 3)], ({"x": 9, "y": -9}, 0), -9 * great - 27), ([row(2, 0, -great - 1), ("by", 6, ({"x": 1}, 1))], ({"x": 1}, 0), 500003), ([row(9, 0, -1), ("by", 5, ({"x": 1}, -great))], ({"x": 1}, 0), 5),
            ([("by", 6, ({"x": 1}, 0)), ("by", 5, ({"x": 1}, 1)), row(1, 0, great)], ({"x": 1}, 7), -999996 + 7), ([row(7, 9, -great), X, Y, ("by", 4, ({"x": 1, "y": 1}, 0))], ({"x": 1, "y": 2}, 0), None),
            ([("any", [row(1, 0, -great), ("all", [row(1, 0, -5), ("by", 6, ({"x": 1}, 1)), ("not", ("same", ({"x": 1}, -5)))])])], ({"x": 2}, 1), 23), ([row(1, 0, 0), ("not", ("by", 6, ({"x": 1}, 0)))], ({"x": 1}, 0), 1),
            ([("any", [row(1, 0, -3), ("all", [row(1, 0, great), ("by", 2, ({"x": 1}, 0)), ("by", 2, ({"x": 1}, 1))])])], ({"x": 1}, 0), 3), ([row(3, -3, -1), row(-3, 3, 6)], APART, 1), ([row(3, -3, -1), row(-3, 3, 6)], ({"x": -1, "y": 1}, 0), -2),
        ]:
            told = self.look_through(System(XY, bodies), term)
            self.assertEqual(told[0], "least")
            if number is not None:
                self.assertEqual(told[1], number, bodies)

    def test_brute(self):
        for chance in chances(60, 2):
            coefficients = {"x": chance.randint(1, 9), "y": chance.randint(1, 9)}
            bodies = [X, Y, ("row", (coefficients, -chance.randint(1, 40))), ("by", chance.randint(1, 6), ({"x": chance.randint(-9, 9), "y": chance.randint(-9, 9)}, chance.randint(0, 5)))]
            term = ({"x": chance.randint(0, 9), "y": chance.randint(0, 9)}, chance.randint(-9, 9))
            told = self.look_through(System(XY, bodies), term)
            points = [{"x": x, "y": y} for x in range(60) for y in range(60)]
            values = [value(term, point) for point in points if is_point(System(XY, bodies), point)]
            if values:
                self.assertEqual(told[:2], ("least", min(values)))
            else:
                self.assertEqual(told[0], "none")

    def test_falling(self):
        for bodies, term in [
            ([], ({"x": 1}, 0)), ([("by", 6, ({"x": 5}, 1)), ("by", 4, ({"x": 1, "y": 1}, 0))], ({"x": -9, "y": 1}, 0)), ([("same", ({"x": 3, "y": 5}, -1)), ("by", 4, ({"y": 1}, 0))], ({"x": 1}, 0)),
            ([row(3, -3, -1), row(-3, 3, 6)], ({"x": 1, "y": 1}, 0)), ([("any", [X, ("all", [("not", X), EVEN])])], ({"x": 1}, 0)), ([("any", [X, Y]), ("not", ("by", 3, ({"y": 1}, 0)))], ({"x": 1, "y": 1}, 0)),
            ([("not", ("same", ({"x": 1}, 0))), ("not", ("all", [X, Y]))], ({"y": 1}, 0)),
        ]:
            told = self.look_through(System(XY, bodies), term)
            self.assertEqual(told[0], "falls")
            _, point, ray = told
            for times in [1, 2, 1000]:
                gone = {name: point[name] + times * ray[name] for name in XY}
                self.assertTrue(is_point(System(XY, bodies), gone))

    def test_no_point(self):
        for bodies in [[("any", [])], [row(3, -3, -1), row(-3, 3, 2)], [("by", 2, ({"x": 2}, 1))]]:
            system = System(XY, bodies)
            self.assertEqual(self.look_through(system, APART), ("none", paper_of(system)))

    def test_the_same_for_what_means_the_same(self):
        one, other = System(XY, EXAMPLE + [EVEN]), System(("x", "y"), swapped(EXAMPLE + [EVEN]))
        for coefficients in [{"x": 2, "y": 3}, {"y": -1, "x": 1}]:
            self.assertEqual(shape(least_of(one, (coefficients, 4))), shape(least_of(term=[{"q": 0, **coefficients}, 4], system=other)))


class Ends(unittest.TestCase):
    def test_bent(self):
        for chance in chances(80, 3):
            system = any_system(chance, 2, 4, 1)
            term = any_term_of(chance, system.names())
            told = least_of(system, term)
            for other in some_bent(told, chance, 50):
                self.assertIs(is_end(system, term, other), end_is_right(system, term, other), other)

    def test_each_bend(self):
        for bodies, term in [(EXAMPLE, ({"x": 2, "y": 3}, 0)), (EXAMPLE + [EVEN], APART), ([row(2, 0, -1), row(-2, 0, 1)], APART)]:
            system = System(XY, bodies)
            for other in bent(least_of(system, term)):
                self.assertIs(is_end(system, term, other), end_is_right(system, term, other), other)

    def test_kept(self):
        system = System(XY, [("any", [("all", [X, EVEN]), Y]), ("not", ("same", ({"x": 1}, 0)))])
        for point, ray, right in [
            ((1, 2), (1, -2), True), ((1, 2), (1, -1), False), ((1, -2), (1, 0), True), ((1, -1), (1, 0), False), ((-1, 3), (0, 5), True), ((-1, 3), (1, 5), False), ((-1, 3), (-1, 5), True),
            ((0, 2), (1, 2), False), ((1, 2), (0, 0), True), ((1, 2), (-1, 2), False), ((1, 3), (1, -2), False),
        ]:
            thing = ("falls", dict(zip(XY, point)), dict(zip(XY, ray)))
            for term in [({"x": -1}, 0), ({"y": -1}, 0), ({"x": 1, "y": 1}, 0)]:
                falling = value((term[0], 0), thing[2]) < 0
                self.assertIs(is_end(system, term, thing), right and falling, thing)

    def test_wrong_ones(self):
        system, term = System(XY, EXAMPLE), ({"x": 2, "y": 3}, 0)
        told = least_of(system, term)
        for thing in [
            ("least", 8, {"x": 4, "y": 0}, told[3]), ("least", 6, told[2], told[3]), ("least", 7, {"x": 2, "y": 2}, told[3]), ("least", 7, {"x": 2}, told[3]), ("least", (7, 1), told[2], told[3]),
            ("least", 7, told[2]), ("none", told[3]), ("falls", told[2], {"x": 1, "y": 1}), ("falls", told[2], {"x": -1, "y": 0}), told[:3] + (None,), None, [], "least", told + (0,),
        ]:
            self.assertIs(is_end(system, term, thing), False, thing)
        self.assertIs(is_end(system, ({}, True and 7), ("least", 7, told[2], ("sum", [(0, 1)] * 3 + [(1, 1)]))), True)
        self.assertIs(is_end(system, ({}, 1), ("least", True, told[2], ("sum", [(0, 1)] * 3 + [(1, 1)]))), False)

    def test_any_object(self):
        for system in [System(XY, EXAMPLE), System([], []), System([], [("any", [])])]:
            for thing in objects() + objects_to_refuse():
                self.assertIs(is_end(system, ({}, 0), thing), False)

    def test_judged_anew(self):
        system, thing = System(XY, EXAMPLE), ["falls", {"x": 0, "y": 3}, {"x": 0, "y": 1}]
        self.assertIs(is_end(system, APART, thing), True)
        thing[1]["y"] = 2
        self.assertIs(is_end(system, APART, thing), False)
        thing[1]["x"] = 1
        self.assertIs(is_end(system, APART, thing), True)
