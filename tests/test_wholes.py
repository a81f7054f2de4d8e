"""[8.3]: just one of a point and a paper."""

import unittest

from outofwishes.errors import BadSystem
from outofwishes.loose import loose_point
from outofwishes.papers import flaw, is_paper
from outofwishes.wholes import paper_of, point_of
from outofwishes.wishes import System, is_point
from tests.checks import any_system, box, figures, paper_flaw, parts_of, points_in, told_again
from tests.samples import X, Y, chances, objects, shape, swapped

XY = ["x", "y"]
PAPER_KINDS = {"gauge": 2, "sum": 2, "span": 5, "any": 3}


def row(x, y, constant):
    return ("row", ({"x": x, "y": y}, constant))


def between(coefficients, low, high):
    """The rows that a sum of names lies from low to high."""
    return [("row", (coefficients, -low)), ("row", ({name: -number for name, number in coefficients.items()}, high))]


def depth_of(paper):
    return max(len(way) for way, _ in parts_of(paper))


class LookedThrough(unittest.TestCase):
    def look_through(self, system):
        """A point or a paper, looked through; told is the point, or None."""
        point = point_of(system)
        if point is not None:
            point = told_again(self, lambda: point_of(system))
            self.assertTrue(is_point(system, point))
            self.assertEqual(list(point), sorted(system.names()))
            self.assertIsNone(paper_of(system))
            self.assertLess(figures(point), 1000)
        else:
            paper = told_again(self, lambda: paper_of(system))
            self.assertIsNone(paper_flaw(system, paper))
            self.assertIsNone(flaw(system, paper))
            self.assertIs(is_paper(system, paper), True)
            self.assertLess(figures(paper), 1000)
            self.assertLess(depth_of(paper), 50)
            for _, part in parts_of(paper):
                self.assertIs(type(part), tuple)
                self.assertEqual(len(part), PAPER_KINDS[part[0]])
                self.assertIs(type(part[-1]), list)
                if part[0] == "span":
                    self.assertEqual([type(one) for one in part], [str, tuple, list, list, list])
                    self.assertNotIn(0, part[1][0].values())
        return point


class JustOne(LookedThrough):
    def test_at_random(self):
        found = {True: 0, False: 0}
        for chance in chances(400):
            system = any_system(chance)
            point = self.look_through(system)
            found[point is None] += 1
            if point is None:
                names = system.names()
                self.assertEqual(points_in(system, box(names, 4 if len(names) < 3 else 2)), [])
        self.assertGreater(min(found.values()), 100)

    def test_within_the_limits(self):
        for chance in chances(120, 1):
            self.look_through(any_system(chance, 4, 8, 3, chance.choice([3, 20, 10 ** 6])))

    def test_no_names_and_no_tests(self):
        zero = ({}, 0)
        for names in [[], ["x"], ["b", "a"]]:
            for body, so in [
                (("row", zero), True), (("row", ({}, -1)), False), (("same", zero), True), (("same", ({}, 2)), False), (("by", 3, ({}, 6)), True), (("by", 3, ({}, 5)), False),
                (("all", []), True), (("any", []), False), (("not", ("any", [])), True), (("not", ("all", [])), False), (("not", ("by", 1, ({}, 5))), False), (("any", [("any", []), ("all", [])]), True),
                (("any", [("row", ({}, -1)), ("same", ({}, 1))]), False), (("any", [("any", []), ("any", [("any", []), ("by", 2, ({}, 1))])]), False),
            ]:
                self.assertIs(self.look_through(System(names, [body])) is not None, so)
            self.assertIsNotNone(self.look_through(System(names, [])))

    def test_far_points_and_great_constants(self):
        great = 10 ** 6
        for bodies in [
            between({"x": 1}, great, great), between({"x": 9, "y": -8}, great, great + 7), between({"x": 9}, -great, -great + 8), between({"x": 7, "y": 9}, great, great) + between({"x": 9, "y": -7}, -great, 130 - great),
            [("by", 6, ({"x": 1}, great)), row(9, -9, -great), row(-8, 9, great), row(1, 0, -great)], [row(9, -8, -great), row(-9, 8, great + 1)], [("same", ({"x": 9, "y": 8}, -great))] + [X, Y],
        ]:
            self.assertIsNotNone(self.look_through(System(XY, bodies)), bodies)
        self.assertIsNone(self.look_through(System(XY, between({"x": 9}, great + 2, great + 7))))
        self.assertIsNone(self.look_through(System(XY, between({"x": 9}, 1, 8) + [row(0, 1, -great)])))

    def test_bad_system(self):
        for thing in objects():
            if not isinstance(thing, System):
                for ask in [point_of, paper_of]:
                    with self.assertRaises(BadSystem) as caught:
                        ask(thing)
                    self.assertIs(caught.exception.system, thing)

    def test_the_same_for_what_means_the_same(self):
        for chance in chances(60, 2):
            system = any_system(chance)
            other = System(tuple(system.names()), swapped(system.bodies()))
            self.assertEqual(shape(point_of(system)), shape(point_of(system=other)))
            self.assertEqual(shape(paper_of(system)), shape(paper_of(system=other)))


class WhatFractionsDoNotSee(LookedThrough):
    def test_strips_that_go_on_for_ever(self):
        for p, q in [(1, -1), (2, 3), (9, -7), (5, 4), (1, 9), (-8, 9)]:
            for times in [2, 3, 6]:
                names = [name for name in XY]
                coefficients = {"x": times * p, "y": times * q}
                if max(abs(times * p), abs(times * q)) <= 27:
                    for low in [1, times * 1000 + 1, 1 - times * 1000]:
                        system = System(names, between(coefficients, low, low + times - 2))
                        self.assertIsNotNone(loose_point(system))
                        self.assertIsNone(self.look_through(system))
                        self.assertIsNotNone(self.look_through(System(names, between(coefficients, low, low + times - 1))))

    def test_strips_of_three_and_four_names(self):
        for coefficients in [{"x": 4, "y": -2, "z": 4}, {"x": 3, "y": 3, "z": -3}, {"x": 3, "y": -3, "z": 3, "a": 3}]:
            self.assertIsNone(self.look_through(System(sorted(coefficients), between(coefficients, 1, 2 if 3 in coefficients.values() else 1))))
        rows = between({"x": 2, "y": 1, "z": 1}, 1, 1) + between({"x": 0, "y": 1, "z": -1}, 0, 0)
        self.assertIsNone(self.look_through(System(["x", "y", "z"], rows)))
        rows = between({"x": 2, "y": 1, "z": 1}, 1, 2) + between({"x": 0, "y": 1, "z": -1}, 0, 1)
        self.assertIsNotNone(self.look_through(System(["x", "y", "z"], rows)))

    def test_lozenges(self):
        for bodies, some in [
            (between({"x": 2, "y": 2}, 1, 1), False), (between({"x": 3, "y": 2}, 1, 4) + between({"x": 3, "y": -2}, 2, 3), True), (between({"x": 5, "y": 4}, 2, 3) + between({"x": 4, "y": -5}, 1, 2), False),
            (between({"x": 2, "y": 1}, 1, 2) + between({"x": 1, "y": -2}, 1, 1), True), (between({"x": 7, "y": 5}, 2, 4) + between({"x": 5, "y": -7}, 1, 4), False),
            ([row(3, 1, -1), row(-3, 1, 2), row(0, -3, 2)], False), ([row(3, 1, -1), row(-3, 1, 2), row(0, -1, 1)], True), ([row(9, 8, -1), row(-9, 9, -1), row(1, -9, 60)], True),
        ]:
            system = System(XY, bodies)
            self.assertIs(self.look_through(system) is not None, some, bodies)
            self.assertIs(points_in(system, box(XY, 12)) != [], some)

    def test_coins(self):
        for one, other in [(3, 5), (4, 9), (7, 8), (5, 9)]:
            for paid in range(0, one * other, 3):
                payable = any((paid - one * many) % other == 0 and paid >= one * many for many in range(paid // one + 1))
                system = System(XY, [("same", ({"x": one, "y": other}, -paid)), X, Y])
                self.assertIs(self.look_through(system) is not None, payable, (one, other, paid))
        for paid in [1, 11, 43, 44]:
            payable = any(paid == 6 * a + 9 * b + 20 * c for a in range(9) for b in range(9) for c in range(9))
            bodies = [("same", ({"x": 6, "y": 9, "z": 20}, -paid)), X, Y, ("row", ({"z": 1}, 0))]
            self.assertIs(self.look_through(System(["z", "x", "y"], bodies)) is not None, payable)

    def test_bys(self):
        for bodies, some in [
            ([("by", 2, ({"x": 1}, 0)), ("by", 3, ({"x": 1}, 1))] + between({"x": 1}, 0, 1), False), ([("by", 2, ({"x": 1}, 0)), ("by", 3, ({"x": 1}, 1))] + between({"x": 1}, 0, 2), True),
            ([("by", 4, ({"x": 1, "y": 1}, 0)), ("by", 6, ({"x": 1, "y": -1}, 1))], False), ([("by", 5, ({"x": 2, "y": 1}, 1)), ("by", 5, ({"x": 1, "y": 3}, 3)), row(1, 0, -1)], True),
            ([("by", 6, ({"x": 1, "y": 5}, 3)), ("by", 6, ({"y": 1}, 0))] + between({"x": 1}, 0, 2), False), ([("by", 6, ({"x": 1, "y": 5}, 3)), ("by", 6, ({"y": 1}, 0))] + between({"x": 1}, -3, 2), True),
            ([("by", 6, ({"x": 1, "y": 1}, 0)), ("by", 5, ({"x": 1, "y": 2}, 0))] + between({"x": 1}, 1, 29) + between({"y": 1}, 0, 0), False),
        ]:
            self.assertIs(self.look_through(System(XY, bodies)) is not None, some, bodies)

    def test_without_halving_there_is_an_end(self):
        for bodies in [
            between({"x": 3, "y": -3}, 1, 2) + [X, Y], between({"x": 6, "y": -9}, 1, 2) + [row(1, 1, -10 ** 6)], between({"x": 2, "y": -2}, 1, 1) + [("not", ("same", ({"x": 1}, 0)))],
            [("same", ({"x": 2, "y": -4}, 1))], [("same", ({"x": 1, "y": -2}, 0)), ("by", 2, ({"x": 1}, 1))], between({"x": 4, "y": 6}, 3, 3) + [("any", [X, Y])],
        ]:
            self.assertIsNone(self.look_through(System(XY, bodies)))


class Anys(LookedThrough):
    def test_within_one_another(self):
        below = ("not", X)
        for body, some in [
            (("any", [("all", [X, below]), ("any", [("all", [X, below]), ("any", [])])]), False), (("any", [("all", [X, below]), ("any", [("all", [X, below]), ("any", [Y, below])])]), True),
            (("all", [("any", [X, Y]), ("not", ("any", [X, Y]))]), False), (("not", ("all", [("any", [X, below]), ("any", [Y, ("not", Y)])])), False),
            (("all", [("any", [X, below]), ("any", [Y, ("not", Y)]), ("not", ("same", ({"x": 1}, 0)))]), True),
            (("all", [("not", ("by", 3, ({"x": 1}, number))) for number in range(3)]), False), (("all", [("not", ("by", 3, ({"x": 1}, number))) for number in range(2)]), True),
            (("all", [("not", ("same", ({"x": 1}, -number))) for number in range(4)] + between({"x": 1}, 0, 3)), False),
            (("all", [("not", ("same", ({"x": 1}, -number))) for number in range(4)] + between({"x": 1}, 0, 4)), True),
            (("all", [("any", [("same", ({"x": 1}, 0)), ("same", ({"x": 1}, -1))]), ("any", [("same", ({"y": 1}, 0)), ("same", ({"y": 1}, -1))]), ("same", ({"x": 1, "y": 1}, -3))]), False),
        ]:
            self.assertIs(self.look_through(System(XY, [body])) is not None, some, body)

    def test_what_an_any_is_not_needed_for(self):
        many = ("any", [X, Y, ("not", X)])
        system = System(XY, [many, many, many] + between({"x": 2, "y": 2}, 1, 1))
        paper = self.look_through(system) or paper_of(system)
        self.assertEqual([part[0] for _, part in parts_of(paper)], ["span"])

    def test_an_any_that_bars_all(self):
        system = System(XY, [X, ("any", [Y, X]), ("any", [])])
        self.assertIsNone(self.look_through(system))
        self.assertEqual(paper_of(system), ("any", 1, []))
