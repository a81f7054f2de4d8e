"""[10.1] to [10.6]: parts, quarrels, what is needed, what is loosened."""

import unittest
from itertools import combinations

from outofwishes.errors import BadIndexes, BadSystem, NoRow
from outofwishes.loose import loose_point
from outofwishes.quarrels import is_quarrel, loosened, needed, part, quarrel
from outofwishes.wholes import paper_of, point_of
from outofwishes.wishes import System, is_point
from tests.checks import any_row, any_system, is_int, objects_to_refuse, paper_flaw, some_bent, told_again
from tests.samples import X, Y, any_body, chances, objects, shape, spoil, swapped

XY = ["x", "y"]


def row(x, y, constant):
    return ("row", ({"x": x, "y": y}, constant))


EXAMPLE = [row(3, -3, -1), X, row(-3, 3, 2)]
STRIP_PAPER = ("span", ({"x": 1, "y": -1}, 0), [(1, 3), (0, 1)], [(0, 1), (1, 3)], [])
POINTS = [{"x": 0, "y": 0}, {"x": 1, "y": 0}]


def any_quarrel_system(chance):
    """A system of up to six bodies at random, most often without a point."""
    names = chance.sample(["x", "y", "z"], chance.randint(1, 2))
    bodies = [any_body(chance, names, 2) for _ in range(chance.randint(0, 3))]
    bodies += [any_row(chance, names, 5, 6) for _ in range(chance.randint(0, 3))]
    chance.shuffle(bodies)
    return System(names, bodies)


def without(system, indexes):
    return System(system.names(), [body for index, body in enumerate(system.bodies()) if index not in indexes])


def part_by_hand(system, indexes):
    return System(system.names(), [system.bodies()[index] for index in indexes])


def quarrel_is_right(system, thing):
    """Whether any object is a quarrel, by adding up and putting in."""
    if type(thing) not in (list, tuple) or len(thing) != 3:
        return False
    indexes, paper, points = thing
    if type(indexes) not in (list, tuple) or type(points) not in (list, tuple) or len(points) != len(indexes):
        return False
    if not all(is_int(index) for index in indexes) or list(indexes) != sorted(set(indexes)):
        return False
    if not all(0 <= index < len(system.bodies()) for index in indexes) or paper_flaw(part_by_hand(system, indexes), paper) is not None:
        return False
    return all(is_point(part_by_hand(system, [one for one in indexes if one != index]), point) for index, point in zip(indexes, points))


def all_quarrels(system):
    """The indexes of all quarrels of a system."""
    many = len(system.bodies())
    bad = [set(some) for size in range(many + 1) for some in combinations(range(many), size) if point_of(part_by_hand(system, some)) is None]
    return [some for some in bad if not any(other < some for other in bad)]


class TheExample(unittest.TestCase):
    def test_quarrel(self):
        system = System(XY, EXAMPLE)
        told = quarrel(system)
        self.assertEqual(told[0], [0, 2])
        self.assertTrue(quarrel_is_right(system, told))
        self.assertIs(is_quarrel(system, ([0, 2], STRIP_PAPER, POINTS)), True)
        self.assertEqual(needed(system), [0, 2])

    def test_loosened(self):
        for index in [0, 2]:
            number, point, paper = loosened(System(XY, EXAMPLE), index)
            self.assertEqual(number, 1)
        self.assertEqual(loosened(System(XY, EXAMPLE), 0)[0], 1)
        self.assertIsNone(loosened(System(XY, EXAMPLE), 1))


class Parts(unittest.TestCase):
    def test_parts(self):
        system = System(XY, EXAMPLE)
        for indexes in [[], (), [0], (2,), [0, 2], [1, 2], [0, 1, 2]]:
            told = part(indexes=indexes, system=system)
            self.assertIs(type(told), System)
            self.assertEqual(told, System(XY, [EXAMPLE[index] for index in indexes]))
        spoil(part(system, [0, 1]).bodies())
        self.assertEqual(part(system, [0, 1, 2]), system)
        self.assertEqual(part(System([], []), []), System([], []))

    def test_bad_indexes(self):
        system = System(XY, EXAMPLE)
        for indexes, place in [
            ([3], 0), ([-1], 0), ([0, 0], 1), ([1, 0], 1), ([0, 2, 1], 2), ([0, 1, 2, 3], 3), ([True], 0), ([0, True], 1), ([False], 0), ([0, None], 1), ([0, "1"], 1),
            ([0, 1.0], 1), ([[0]], 0), (["0", 0], 0), ((0, 2, 2), 2), ([2, 5, 0], 1), ([1, 2, -1], 2), ([0, 10 ** 30], 1), (None, 0), (0, 0), ("", 0), ("01", 0), ({}, 0), ({0: 0}, 0), (len, 0), (system, 0),
        ]:
            with self.assertRaises(BadIndexes) as caught:
                part(system, indexes)
            self.assertEqual(shape(caught.exception.index), shape(place), indexes)
        self.assertRaises(BadIndexes, part, System([], []), [0])

    def test_bad_system_ahead(self):
        for thing in objects():
            if not isinstance(thing, System):
                for ask in [lambda: part(thing, None), lambda: quarrel(thing), lambda: is_quarrel(thing, None), lambda: needed(thing), lambda: loosened(thing, None)]:
                    with self.assertRaises(BadSystem) as caught:
                        ask()
                    self.assertIs(caught.exception.system, thing)


class Quarrels(unittest.TestCase):
    def test_at_random(self):
        found = {True: 0, False: 0}
        for chance in chances(150, 1):
            system = any_quarrel_system(chance) if chance.random() < 0.7 else any_system(chance, 2, 4, 1)
            told = quarrel(system)
            found[told is None] += 1
            self.assertEqual(told is None, point_of(system) is not None)
            if told is not None:
                told = told_again(self, lambda: quarrel(system))
                self.assertEqual([type(one) for one in told], [list, tuple, list])
                self.assertEqual(type(told), tuple)
                self.assertTrue(quarrel_is_right(system, told))
                self.assertIs(is_quarrel(thing=swapped(told), system=system), True)
                self.assertTrue(all(list(point) == sorted(system.names()) for point in told[2]))
                for other in some_bent(told, chance, 25):
                    self.assertIs(is_quarrel(system, other), quarrel_is_right(system, other), other)
        self.assertGreater(min(found.values()), 30)

    def test_of_rows_alone(self):
        many = 0
        for chance in chances(120, 2):
            names = ["x", "y", "z"][:chance.randint(1, 2)]
            system = System(names, [any_row(chance, names, 9, 12) for _ in range(10)])
            told = quarrel(system)
            if told is not None:
                many += 1
                self.assertLessEqual(len(told[0]), 2 ** len(names))
                if loose_point(system) is None:
                    self.assertLessEqual(len(told[0]), len(names) + 1)
        self.assertGreater(many, 20)
        four = System(XY, [row(3, 1, -1), row(-3, 1, 2), row(1, -3, 1), row(-1, -3, 2)])
        self.assertEqual(quarrel(four) is None, point_of(four) is not None)

    def test_edges(self):
        self.assertIsNone(quarrel(System([], [])))
        self.assertEqual(quarrel(System([], [("any", [])])), ([0], ("any", 0, []), [{}]))
        self.assertEqual(quarrel(System(["x"], [X, ("row", ({}, -1)), X]))[0], [1])
        self.assertIs(is_quarrel(System([], []), ([], ("sum", []), [])), False)
        system = System(["x"], [X, ("not", X), X, ("by", 2, ({"x": 2}, 1))])
        for indexes in [[0, 1], [1, 2], [3]]:
            thing = (indexes, paper_of(part(system, indexes)), [point_of(part(system, [one for one in indexes if one != index])) for index in indexes])
            self.assertIs(is_quarrel(system, thing), True)
            self.assertIs(is_quarrel(system, (indexes[::-1], thing[1], thing[2][::-1])), len(indexes) == 1)
        self.assertIs(is_quarrel(system, ([0, 1, 3], paper_of(part(system, [0, 1, 3])), [{"x": 0}] * 3)), False)

    def test_any_object(self):
        for system in [System(XY, EXAMPLE), System([], []), System([], [("any", [])])]:
            for thing in objects() + objects_to_refuse() + [([0, 2], STRIP_PAPER), ([0, 2], STRIP_PAPER, POINTS[::-1]), ([0, 2], STRIP_PAPER, POINTS, [])]:
                self.assertIs(is_quarrel(system, thing), False, thing)

    def test_judged_anew(self):
        system = System(XY, EXAMPLE)
        thing = [[0, 2], STRIP_PAPER, [dict(point) for point in POINTS]]
        self.assertIs(is_quarrel(system, thing), True)
        thing[2][0]["x"] = 1
        self.assertIs(is_quarrel(system, thing), False)
        thing[2][0]["x"] = -5
        self.assertIs(is_quarrel(system, thing), True)
        thing[0][1] = 1
        self.assertIs(is_quarrel(system, thing), False)


class Needed(unittest.TestCase):
    def test_what_all_quarrels_have(self):
        many = 0
        for chance in chances(80, 3):
            system = any_quarrel_system(chance)
            told = needed(system)
            self.assertEqual(told is None, point_of(system) is not None)
            if told is not None:
                many += 1
                quarrels = all_quarrels(system)
                self.assertIn(set(quarrel(system)[0]), quarrels)
                self.assertEqual(told_again(self, lambda: needed(system)), sorted(set.intersection(*quarrels)))
        self.assertGreater(many, 20)

    def test_edges(self):
        self.assertIsNone(needed(System([], [])))
        self.assertEqual(needed(System([], [("any", [])])), [0])
        self.assertEqual(needed(system=System([], [("any", []), ("any", [])])), [])
        self.assertEqual(needed(System(["x"], [X, ("not", X), X])), [1])


class Loosened(unittest.TestCase):
    def look_through(self, system, index):
        told = told_again(self, lambda: loosened(system, index))
        number, point, paper = told
        self.assertIs(type(told), tuple)
        self.assertTrue(is_int(number) and number >= 0)
        bodies = system.bodies()
        for more, wanted in [(number, True), (number - 1, False)]:
            coefficients, constant = bodies[index][1]
            changed = bodies[:index] + [("row", (coefficients, constant + more))] + bodies[index + 1:]
            if wanted:
                self.assertTrue(is_point(System(system.names(), changed), point))
            elif number > 0:
                self.assertIsNone(paper_flaw(System(system.names(), changed), paper))
        self.assertEqual(paper is None, number == 0)
        self.assertEqual(number == 0, point_of(system) is not None)
        return number

    def test_at_random(self):
        found = {"none": 0, "zero": 0, "more": 0}
        for chance in chances(150, 4):
            names = ["x", "y"][:chance.randint(1, 2)]
            system = System(names, [any_row(chance, names, 5, 9) for _ in range(chance.randint(1, 3))] + [any_body(chance, names, 1) for _ in range(chance.randint(0, 2))])
            if point_of(without(system, [0])) is None:
                self.assertIsNone(loosened(system, 0))
                found["none"] += 1
            else:
                found["more" if self.look_through(system, 0) > 0 else "zero"] += 1
        self.assertGreater(min(found.values()), 8)

    def test_edges(self):
        for bodies, index, number in [
            ([X], 0, 0), ([X, row(-1, 0, -7)], 0, 7), ([X, row(-1, 0, -7)], 1, 7), ([("row", ({}, -4))], 0, 4), ([("row", ({}, -10 ** 6)), Y], 0, 10 ** 6), ([("by", 6, ({"x": 1}, 1)), row(-2, 0, 1), row(2, 0, 1)], 2, 1),
            ([row(3, 0, -10 ** 6), row(-3, 0, -5)], 1, 10 ** 6 + 5 + 2), ([("any", [row(-1, 0, -9), row(-1, 0, -3)]), X], 1, 3),
        ]:
            self.assertEqual(self.look_through(System(XY, bodies), index), number, bodies)
        self.assertIsNone(loosened(index=0, system=System([], [("row", ({}, 0)), ("any", [])])))

    def test_no_row(self):
        system = System(XY, [X, ("not", X), ("same", ({"x": 1}, 0)), ("any", [X]), ("all", [X]), ("by", 2, ({"x": 1}, 0)), Y])
        for index in objects() + [2, 3, 4, 5, 7, -7, 1.0, [0], "0"]:
            if not (is_int(index) and index in (0, 6)):
                with self.assertRaises(NoRow) as caught:
                    loosened(system, index)
                self.assertIs(caught.exception.index, index)
        self.assertRaises(NoRow, loosened, System([], []), 0)

    def test_the_same_for_what_means_the_same(self):
        one, other = System(XY, EXAMPLE), System(tuple(XY), swapped(EXAMPLE))
        self.assertEqual(shape(quarrel(one)), shape(quarrel(system=other)))
        self.assertEqual(shape(loosened(one, 0)), shape(loosened(other, 0)))
