"""[11.1] to [11.4]: held against, alike, cores."""

import unittest

from outofwishes.bodies import holds
from outofwishes.errors import BadBody, BadNames, BadSystem, StrangeName
from outofwishes.flats import denied
from outofwishes.heldagainst import against, alike, core, follows, is_core, parted
from outofwishes.quarrels import is_quarrel, part, quarrel
from outofwishes.wholes import paper_of, point_of
from outofwishes.wishes import System, is_point
from tests.checks import are_numbers, box, is_int, objects_to_refuse, paper_flaw, some_bent, told_again
from tests.samples import BAD_NAMES, X, Y, any_body, chances, objects, shape, spoil, swapped

XY = ["x", "y"]
HELD = [against, follows, alike, parted]


def by(many, x=1, constant=0):
    return ("by", many, ({"x": x}, constant))


def row(x, constant):
    return ("row", ({"x": x}, constant))


TWICE = System(["x"], [row(1, 0), row(2, 3), by(2), by(4)])


def against_by_hand(system, indexes, index):
    bodies = system.bodies()
    return System(system.names(), [("all", [bodies[one] for one in indexes]), denied(bodies[index])])


def core_is_right(system, thing):
    """Whether any object is a core, by adding up and putting in."""
    if type(thing) not in (list, tuple) or len(thing) != 3:
        return False
    indexes, papers, points = thing
    if any(type(one) not in (list, tuple) for one in thing) or not all(is_int(index) for index in indexes):
        return False
    many = len(system.bodies())
    others = [index for index in range(many) if index not in indexes]
    if list(indexes) != sorted(set(indexes)) or not all(0 <= index < many for index in indexes):
        return False
    if len(papers) != len(others) or len(points) != len(indexes):
        return False
    for index, paper in zip(others, papers):
        if paper_flaw(against_by_hand(system, indexes, index), paper) is not None:
            return False
    for index, point in zip(indexes, points):
        bodies = [system.bodies()[one] for one in indexes if one != index]
        if not are_numbers(point, system.names()) or not all(holds(body, point) for body in bodies) or holds(system.bodies()[index], point):
            return False
    return True


def any_core_system(chance):
    """A system of up to six bodies, some wished twice in other words."""
    names = ["x", "y"][:chance.randint(1, 2)]
    bodies = [any_body(chance, names, 1) for _ in range(chance.randint(0, 4))]
    for body in bodies[:2]:
        bodies.append(chance.choice([("not", ("not", body)), ("any", [body, body]), ("all", [body]), ("any", [body, any_body(chance, names, 1)])]))
    chance.shuffle(bodies)
    return System(names, bodies)


class TheExample(unittest.TestCase):
    def test_follows(self):
        both = ("all", [by(2), by(3)])
        self.assertIs(follows(["x"], both, by(6)), True)
        self.assertIs(alike(["x"], both, by(6)), True)
        self.assertIs(follows(["x"], row(2, -1), row(1, -1)), True)
        self.assertEqual(parted(["x"], row(1, -1), row(1, -2)), {"x": 1})
        self.assertIs(alike(["x"], row(1, -1), row(1, -2)), False)

    def test_core(self):
        told = core(TWICE)
        self.assertIn(told[0], [[0, 3], [1, 3]])
        self.assertTrue(core_is_right(TWICE, told))
        papers = [paper_of(against_by_hand(TWICE, [0, 3], index)) for index in [1, 2]]
        self.assertIs(is_core(TWICE, ([0, 3], papers, [{"x": -4}, {"x": 1}])), True)
        papers = [paper_of(against_by_hand(TWICE, [1, 3], index)) for index in [0, 2]]
        self.assertIs(is_core(TWICE, ([1, 3], papers, [{"x": -4}, {"x": 1}])), True)


class Against(unittest.TestCase):
    def test_as_it_is_written(self):
        one, other = ["any", ([*X], ("not", Y))], ("not", ["all", (X, by(3))])
        told = against(("y", "x", "z"), one, other)
        self.assertIs(type(told), System)
        self.assertEqual(told.names(), ["y", "x", "z"])
        self.assertEqual(shape(told.bodies()), shape([("any", [X, ("not", Y)]), ("all", [X, by(3)])]))
        self.assertEqual(against(["x"], X, by(3)).bodies()[1], ("any", [by(3, 1, -1), by(3, 1, -2)]))
        self.assertEqual(against(other=X, one=Y, names=XY), System(XY, [Y, ("row", ({"x": -1}, -1))]))
        self.assertEqual(against([], ("all", []), ("any", [])), System([], [("all", []), ("all", [])]))

    def test_errors_in_their_order(self):
        for ask in HELD:
            for names, index in BAD_NAMES:
                with self.assertRaises(BadNames) as caught:
                    ask(names, None, None)
                self.assertEqual(caught.exception.index, index)
            for thing in objects():
                with self.assertRaises(BadBody) as caught:
                    ask([], thing, None)
                self.assertIs(caught.exception.body, thing)
                with self.assertRaises(BadBody) as caught:
                    ask([], X, thing)
                self.assertIs(caught.exception.body, thing)
            for names, one, other, name in [
                ([], Y, X, "x"), (["x"], X, ("any", [Y, ("by", 1, ({"b": 2}, 0))]), "b"), (["x"], ("row", ({"z": 1, "a": 0}, 0)), Y, "y"), (["y"], ("not", X), ("any", []), "x"),
                (["x"], X, ("by", 1, ({"q": 1}, 0)), "q"), (["x"], X, ("by", 2, ({"q": 2}, 0)), "q"),
            ]:
                with self.assertRaises(StrangeName) as caught:
                    ask(names, one, other)
                self.assertEqual(caught.exception.name, name)

    def test_told_again(self):
        told = against(["x"], X, by(3))
        spoil(told.bodies())
        spoil(told.names())
        self.assertEqual(told, against(["x"], X, by(3)))


class Alike(unittest.TestCase):
    def test_at_random(self):
        found = {True: 0, False: 0}
        points = box(XY, 6)
        for chance in chances(200, 1):
            one, other = any_body(chance, XY, 2), any_body(chance, XY, 2)
            if chance.random() < 0.4:
                other = chance.choice([("not", ("not", one)), ("any", [one, one]), ("all", [one, ("any", [one, other])]), ("any", [("all", [one, other]), one])])
            numbers = parted(XY, one, other)
            found[numbers is None] += 1
            self.assertIs(alike(XY, one, other), numbers is None)
            ahead, behind = follows(XY, one, other), follows(names=XY, other=one, one=other)
            self.assertIs(ahead and behind, numbers is None)
            if numbers is None:
                self.assertTrue(all(holds(one, point) is holds(other, point) for point in points))
            else:
                numbers = told_again(self, lambda: parted(XY, one, other))
                self.assertTrue(are_numbers(numbers, XY) and list(numbers) == XY)
                self.assertIsNot(holds(one, numbers), holds(other, numbers))
            for point in points:
                if holds(one, point) and not holds(other, point):
                    self.assertIs(ahead, False)
            if ahead:
                self.assertIsNone(paper_flaw(against(XY, one, other), paper_of(against(XY, one, other))))
            self.assertEqual(shape(parted(swapped(XY), swapped(one), swapped(other))), shape(numbers))
        self.assertGreater(min(found.values()), 40)

    def test_parted_both_ways(self):
        for one, other in [(X, row(1, -1)), (row(1, -1), X), (by(2), by(4)), (by(4), by(2)), (("all", []), ("any", [])), (("any", []), ("all", []))]:
            numbers = parted(["x"], one, other)
            self.assertIsNot(holds(one, numbers), holds(other, numbers))
            self.assertIs(alike(["x"], one, other), False)
        self.assertEqual(parted([], ("all", []), ("any", [])), {})

    def test_alike_in_other_words(self):
        for one, other in [
            (("by", 5, ({"x": 1}, 0)), ("by", 5, ({"x": 2}, 0))), (row(2, -1), row(3, -1)), (("not", by(2)), by(2, 1, 1)), (("same", ({"x": 2}, 1)), ("any", [])), (("any", [X, ("not", X)]), ("all", [])),
            (("all", [row(2, -1), row(-2, 3)]), ("same", ({"x": 1}, -1))), (("all", [by(4), by(6)]), by(12)), (("not", ("same", ({"x": 1}, 0))), ("any", [row(1, -1), row(-1, -1)])),
        ]:
            self.assertIs(alike(["x"], one, other), True)
            self.assertIs(follows(["x"], one, other), True)
            self.assertIsNone(parted(["x"], one, other))


class Cores(unittest.TestCase):
    def test_at_random(self):
        found = {"point": 0, "none": 0}
        points = {1: box(["x"], 12), 2: box(XY, 5)}
        for chance in chances(150, 2):
            system = any_core_system(chance)
            told = told_again(self, lambda: core(system))
            self.assertEqual([type(one) for one in told], [list, list, list])
            self.assertIs(type(told), tuple)
            self.assertTrue(core_is_right(system, told))
            self.assertIs(is_core(thing=swapped(told), system=system), True)
            for other in some_bent(told, chance, 20):
                self.assertIs(is_core(system, other), core_is_right(system, other), other)
            kept = part(system, told[0])
            for point in points[len(system.names())]:
                self.assertIs(is_point(kept, point), is_point(system, point))
            if point_of(system) is None:
                found["none"] += 1
                others = [point_of(part(system, [one for one in told[0] if one != index])) for index in told[0]]
                self.assertIs(is_quarrel(system, (told[0], paper_of(kept), others)), True)
                indexes, _, points_of_quarrel = quarrel(system)
                papers = [paper_of(against_by_hand(system, indexes, index)) for index in range(len(system.bodies())) if index not in indexes]
                self.assertIs(is_core(system, (indexes, papers, points_of_quarrel)), True)
            else:
                found["point"] += 1
        self.assertGreater(min(found.values()), 20)

    def test_edges(self):
        self.assertEqual(core(System([], [])), ([], [], []))
        self.assertEqual(core(System([], [("all", [])]))[0], [])
        self.assertEqual(core(System([], [("any", [])])), ([0], [], [{}]))
        self.assertEqual(core(system=System(["x"], [X, X, X]))[0], [2])
        self.assertIs(is_core(System([], []), ((), [], ())), True)
        self.assertIs(is_core(System(["x"], [X, X]), ([0], [("sum", [(1, 1), (1, 1)])], [{"x": -1}])), True)
        self.assertIs(is_core(System(["x"], [X, X]), ([0], [("sum", [(1, 1), (1, 1)])], [{"x": 1}])), False)
        self.assertIs(is_core(System(["x"], [X, X]), ([0, 1], [], [{"x": -1}, {"x": -1}])), False)

    def test_any_object(self):
        for system in [TWICE, System(["x"], []), System([], [("any", [])])]:
            for thing in objects() + objects_to_refuse() + [([0, 3], [], [{"x": -4}, {"x": 1}]), ([3, 0], [None, None], []), ([0], None, [{"x": -1}])]:
                self.assertIs(is_core(system, thing), False, thing)

    def test_bad_system(self):
        for thing in objects():
            if not isinstance(thing, System):
                for ask in [lambda: core(thing), lambda: is_core(thing, None)]:
                    with self.assertRaises(BadSystem) as caught:
                        ask()
                    self.assertIs(caught.exception.system, thing)
