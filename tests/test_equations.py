"""[6.1] to [6.5]: equations, all points, gauges, mixes."""

import unittest

from outofwishes.equations import gauge, is_gauge, is_solution, mix_of, solution
from outofwishes.errors import BadPoint, BadSolution, BadSystem, NotEven
from outofwishes.flats import flat
from outofwishes.papers import flaw
from outofwishes.wholes import point_of
from outofwishes.wishes import System, is_point
from tests.checks import (
    bent, box, figures, gauge_is_right, objects_to_refuse, points_in, rank, some_bent, told_again, whole_mix,
)
from tests.samples import X, Y, chances, objects, shape, swapped

XY = ["x", "y"]
THREE_FIVE = ("same", ({"x": 3, "y": 5}, -1))
ASKED = [
    solution, gauge, lambda system: is_solution(system, None), lambda system: is_gauge(system, None),
    lambda system: mix_of(system, None, None),
]


def by(many, x, y, constant):
    return ("by", many, ({"x": x, "y": y}, constant))


def same(x, y, constant):
    return ("same", ({"x": x, "y": y}, constant))


def any_even_system(chance, most_names=4, most=9, most_tests=5, planted=None):
    """A system of sames and bys at random, now and then within alls; its point is planted in half of them."""
    names = chance.sample(["x", "y", "z", "a", "b", "c", "d", "e"], chance.randint(0, most_names))
    hidden = {name: chance.randint(-20, 20) for name in names}
    planted = chance.random() < 0.5 if planted is None else planted
    bodies = []
    for _ in range(chance.randint(0, most_tests)):
        coefficients = {name: chance.randint(-most, most) for name in chance.sample(names, chance.randint(0, len(names)))}
        constant = chance.randint(-most, most)
        if planted:
            constant = -sum(number * hidden[name] for name, number in coefficients.items())
        kind = chance.choice(["same", "by", "by"])
        term = (coefficients, constant)
        bodies.append((kind, term) if kind == "same" else (kind, chance.choice([1, 2, 3, 4, 6, 12, 30, 60]), term))
    if chance.random() < 0.2:
        bodies = [("all", bodies[:2]), ("not", ("not", ("all", bodies[2:])))]
    return System(names, bodies)


def mixed(chance, steps, names):
    """Other steps with the same whole mixes: added to one another, turned, in another order."""
    steps = [dict(step) for step in steps]
    for _ in range(6 if len(steps) > 1 else 0):
        one, other = chance.sample(range(len(steps)), 2)
        times = chance.randint(-3, 3)
        steps[one] = {name: steps[one][name] + times * steps[other][name] for name in names}
    steps = [{name: -step[name] for name in names} if chance.random() < 0.5 else step for step in steps]
    chance.shuffle(steps)
    return steps


def moved(point, steps, mix):
    return {name: point[name] + sum(times * step[name] for times, step in zip(mix, steps)) for name in point}


class TheExample(unittest.TestCase):
    def test_one_same(self):
        system = System(XY, [THREE_FIVE])
        point, steps = solution(system)
        self.assertIn(steps, [[{"x": 5, "y": -3}], [{"x": -5, "y": 3}]])
        self.assertTrue(is_point(system, point))
        whole = ({"x": -3, "y": 2}, [{"x": 5, "y": -3}])
        self.assertIs(is_solution(system, whole), True)
        self.assertEqual(mix_of(system, whole, {"x": 2, "y": -1}), [1])
        self.assertIsNone(gauge(system))

    def test_with_bys(self):
        never = System(XY, [THREE_FIVE, by(4, 1, 1, 0)])
        self.assertIsNone(solution(never))
        self.assertIs(is_gauge(never, ("gauge", [(1, 2), (1, 2)])), True)
        self.assertIs(is_gauge(never, gauge(never)), True)
        even = System(XY, [THREE_FIVE, by(4, 1, 1, 1)])
        self.assertIs(is_solution(even, ({"x": -3, "y": 2}, [{"x": 10, "y": -6}])), True)
        self.assertIs(is_solution(even, ({"x": -3, "y": 2}, [{"x": 5, "y": -3}])), False)
        self.assertIs(is_solution(even, solution(even)), True)

    def test_never_and_no_tests(self):
        never = System(XY, [same(3, 6, -1)])
        self.assertIs(is_gauge(never, ("gauge", [(1, 3)])), True)
        self.assertEqual(len(gauge(never)[1]), 1)
        free = System(["x"], [])
        self.assertIs(is_solution(free, ({"x": 0}, [{"x": 1}])), True)
        self.assertEqual(len(solution(free)[1]), 1)


class Errors(unittest.TestCase):
    def test_not_even(self):
        for bodies, index in [
            ([X], 0), ([THREE_FIVE, X, Y], 1), ([THREE_FIVE, ("any", [X, Y])], 1), ([("any", [X, Y])], 0), ([("any", [])], 0),
            ([("any", [X, Y]), THREE_FIVE, THREE_FIVE, Y], 2), ([("any", [X])], 0), ([("not", ("by", 1, ({}, 0)))], 0),
            ([("all", [THREE_FIVE, ("all", [THREE_FIVE, ("any", [])])]), ("any", [])], 2), ([("not", THREE_FIVE)], 0),
            ([("not", by(3, 1, 0, 0)), THREE_FIVE], 1), ([("any", [X, Y]), THREE_FIVE, ("not", ("any", [X]))], 1),
        ]:
            for ask in ASKED:
                with self.assertRaises(NotEven) as caught:
                    ask(System(XY, bodies))
                self.assertEqual(shape(caught.exception.index), shape(index), bodies)

    def test_nowhere_else(self):
        system = System(XY, [THREE_FIVE, X, ("any", [X, Y])])
        self.assertTrue(is_point(system, point_of(system)))
        self.assertEqual(flaw(system, None), [])
        for bodies in [[("not", by(2, 1, 0, 0))], [("any", [THREE_FIVE])], [("all", [])], [("not", ("any", []))]]:
            self.assertIsNotNone(solution(System(XY, bodies)))

    def test_bad_system_ahead(self):
        for thing in objects() + [[THREE_FIVE], (XY, [X])]:
            if not isinstance(thing, System):
                for ask in ASKED:
                    with self.assertRaises(BadSystem) as caught:
                        ask(thing)
                    self.assertIs(caught.exception.system, thing)

    def test_bad_solution_ahead_of_bad_point(self):
        system = System(XY, [THREE_FIVE])
        right = ({"x": -3, "y": 2}, [{"x": 5, "y": -3}])
        wrong = objects() + objects_to_refuse() + [(right[0], []), (right[0], right[1] * 2), ({"x": 0, "y": 0}, right[1])]
        for thing in wrong:
            for point in [None, right[0]]:
                with self.assertRaises(BadSolution) as caught:
                    mix_of(system, thing, point)
                self.assertIs(caught.exception.solution, thing)
        for step in [{"x": 5, "y": 3}, {"x": 3, "y": 5}, {"x": -3, "y": 5}, {"x": 10, "y": -6}, {"x": 0, "y": 0}]:
            self.assertRaises(BadSolution, mix_of, system, (right[0], [step]), right[0])
        never = System(XY, [same(3, 6, -1)])
        self.assertRaises(BadSolution, mix_of, never, right, right[0])

    def test_bad_point(self):
        system = System(XY, [THREE_FIVE])
        right = ({"x": -3, "y": 2}, [{"x": 5, "y": -3}])
        for point in objects() + [{"x": 0, "y": 0}, {"x": -3}, {"x": -3, "y": 2, "z": 0}, {"x": -3, "y": True}, [right[0]]]:
            with self.assertRaises(BadPoint) as caught:
                mix_of(solution=right, point=point, system=system)
            self.assertIs(caught.exception.point, point)


class AllPoints(unittest.TestCase):
    def look_through(self, system):
        """The solution, looked through by putting in."""
        told = told_again(self, lambda: solution(system))
        names = system.names()
        point, steps = told
        self.assertIs(type(told), tuple)
        self.assertIs(type(steps), list)
        for numbers in [point] + steps:
            self.assertEqual(list(numbers), sorted(names))
        self.assertTrue(is_point(system, point))
        sames = [test for test in flat(system)[0] if test[0] == "same"]
        self.assertEqual(len(steps), len(names) - rank(sames, names))
        return told

    def test_at_random(self):
        found = {True: 0, False: 0}
        for chance in chances(250):
            system = any_even_system(chance, 3, 4)
            names = system.names()
            points = points_in(system, box(names, 5 if len(names) < 3 else 3))
            gauged = gauge(system)
            found[gauged is None] += 1
            if gauged is None:
                point, steps = self.look_through(system)
                for _ in range(5):
                    mix = [chance.randint(-9, 9) for _ in steps]
                    self.assertTrue(is_point(system, moved(point, steps, mix)))
                for other in points:
                    mix = whole_mix(steps, {name: other[name] - point[name] for name in names}, names)
                    self.assertTrue(mix is not None and all(number.denominator == 1 for number in mix))
                    self.assertEqual(mix_of(system, (point, steps), other), mix)
            else:
                self.assertIsNone(solution(system))
                self.assertEqual(points, [])
                self.assertTrue(gauge_is_right(flat(system)[0], gauged[1]))
        self.assertGreater(min(found.values()), 40)

    def test_no_names_and_tests_that_are_always_or_never_so(self):
        zero = ({}, 0)
        for names in [[], ["x"], ["y", "x"]]:
            always = System(names, [("same", zero), ("by", 3, ({}, 6)), ("by", 1, ({}, 7)), ("all", []), ("same", ({"q": 0}, 0))])
            units = [{name: int(name == one) for name in names} for one in names]
            self.assertIs(is_solution(always, ({name: 7 for name in names}, units)), True)
            self.look_through(always)
            for never in [("same", ({}, 1)), ("by", 3, ({}, 2)), ("same", ({}, -10 ** 15)), ("by", 60, ({}, 59))]:
                system = System(names, [("same", zero), never, ("same", zero)])
                self.assertIsNone(solution(system))
                self.assertTrue(gauge_is_right(flat(system)[0], gauge(system)[1]))
        self.assertEqual(shape(solution(System([], []))), shape(({}, [])))
        self.assertIs(is_solution(System([], []), ({}, [{}])), False)

    def test_sames_made_of_others(self):
        bodies = [same(1, 2, -3), same(2, 4, -6), same(-3, -6, 9), same(1, -1, 0), same(2, 1, -3)]
        point, steps = self.look_through(System(XY, bodies))
        self.assertEqual((point, steps), ({"x": 1, "y": 1}, []))
        self.assertIsNone(solution(System(XY, bodies + [same(3, 3, -7)])))
        self.assertTrue(gauge_is_right(bodies + [same(3, 3, -7)], gauge(System(XY, bodies + [same(3, 3, -7)]))[1]))

    def test_bys_with_divisors_of_their_own(self):
        for bodies, many in [
            ([by(6, 4, 0, 2)], 3), ([by(60, 30, 0, 0)], 2), ([by(4, 2, 0, 1)], None), ([by(6, 2, 2, 0)], 3), ([by(6, 3, 3, 3)], 2),
            ([by(12, 8, 0, 4), by(8, 4, 4, 4)], 6), ([by(4, 1, 0, 0), by(6, 1, 0, 2)], 12), ([by(4, 1, 0, 0), by(6, 1, 0, 1)], None),
            ([by(1, 1, 1, 1)], 1), ([by(60, 1, 0, 59), by(60, 0, 1, 1)], 3600), ([by(10, 0, 0, 20)], 1), ([by(10, 0, 0, 25)], None),
        ]:
            told = solution(System(XY, bodies))
            self.assertEqual(told is None, many is None)
            if many is not None:
                point, (one, other) = self.look_through(System(XY, bodies))
                self.assertEqual(abs(one["x"] * other["y"] - one["y"] * other["x"]), many)

    def test_eight_names_and_twelve_tests(self):
        for chance in chances(60, 1):
            system = any_even_system(chance, 8, 1000, 12, True)
            names = system.names()
            told = self.look_through(system)
            self.assertLess(figures(told), 1000)
            self.assertIs(is_solution(system, told), True)
            mix = [chance.randint(-10 ** 6, 10 ** 6) for _ in told[1]]
            self.assertEqual(mix_of(system, told, moved(told[0], told[1], mix)), mix)
            system = System(names, system.bodies() + [("by", 7, ({name: 7 for name in names}, 3))])
            self.assertIsNone(solution(system))
            self.assertTrue(gauge_is_right(flat(system)[0], gauge(system)[1]))
            self.assertLess(figures(gauge(system)), 1000)

    def test_great_constants(self):
        great = 10 ** 15
        system = System(["x", "y", "z"], [("same", ({"x": 999, "y": -1000}, great)), ("by", 59, ({"y": 1, "z": 1}, 1 - great)), ("same", ({"z": 7, "x": 1}, great - 1))])
        self.assertIs(is_solution(system, self.look_through(system)), True)
        self.assertIsNone(solution(System(XY, [same(999, 999, great)])))
        self.assertTrue(gauge_is_right([same(999, 999, great)], gauge(System(XY, [same(999, 999, great)]))[1]))

    def test_the_same_for_what_means_the_same(self):
        one = System(("x", "y"), (["same", [{"y": 5, "x": 3, "z": 0}, -1]], ["by", 4, ({"y": 1, "x": 1}, 1)]))
        other = System(["x", "y"], [THREE_FIVE, by(4, 1, 1, 1)])
        self.assertEqual(shape(solution(one)), shape(solution(system=other)))
        one = System(("x", "y"), (["same", [{"y": 6, "x": 3}, -1]],))
        self.assertEqual(shape(gauge(one)), shape(gauge(system=System(XY, [same(3, 6, -1)]))))


class WhoeversSolutions(unittest.TestCase):
    def test_mixed_steps_and_other_points(self):
        for chance in chances(120, 2):
            system = any_even_system(chance, 4, 5, 4, True)
            names = system.names()
            point, steps = solution(system)
            other = (moved(point, steps, [chance.randint(-9, 9) for _ in steps]), mixed(chance, steps, names))
            self.assertIs(is_solution(system, other), True)
            self.assertIs(is_solution(thing=swapped(other), system=system), True)
            mix = [chance.randint(-9, 9) for _ in steps]
            self.assertEqual(mix_of(system, swapped(other), moved(other[0], other[1], mix)), mix)
            self.assertEqual(moved(other[0], other[1], mix_of(system, other, point)), point)
            if steps:
                one, at = chance.choice(steps), chance.randrange(len(steps))
                double = {name: 2 * one[name] for name in names}
                for wrong in [
                    steps + [one], steps[:at] + steps[at + 1:], [double] + [step for step in steps if step != one], steps + [double],
                    steps[:at] + [{name: 0 for name in names}] + steps[at + 1:], steps + [{name: 0 for name in names}], None, tuple(point),
                ]:
                    self.assertIs(is_solution(system, (point, wrong)), False)
            if len(steps) > 1:
                self.assertIs(is_solution(system, (point, [steps[1]] + steps[1:])), False)

    def test_bent_solutions(self):
        system = System(XY, [by(6, 2, 3, 1), by(4, 0, 1, 1)])
        told = solution(system)
        for other in bent(told):
            right = False
            if type(other) is tuple and len(other) == 2 and type(other[1]) is list and len(other[1]) == 2:
                whole = [thing for thing in [other[0], *other[1]] if type(thing) is dict and sorted(map(str, thing)) == XY]
                whole = [thing for thing in whole if all(type(number) is int for number in thing.values())]
                if len(whole) == 3 and is_point(system, whole[0]):
                    ends = [is_point(system, moved(whole[0], [step], [times])) for step in whole[1:] for times in (1, 2)]
                    size = [abs(one["x"] * two["y"] - one["y"] * two["x"]) for one, two in (whole[1:], told[1])]
                    right = all(ends) and size[0] == size[1]
            self.assertIs(is_solution(system, other), right, other)

    def test_any_object(self):
        for system in [System(XY, [THREE_FIVE]), System([], []), System(["x"], [("by", 2, ({"x": 1}, 0))]), System([], [("same", ({}, 1))])]:
            for thing in objects() + objects_to_refuse():
                self.assertIs(is_solution(system, thing), False)
                self.assertIs(is_gauge(system, thing), False)

    def test_judged_anew(self):
        system = System(["x"], [("by", 2, ({"x": 1}, 0))])
        thing = ({"x": 4}, [{"x": -2}])
        self.assertIs(is_solution(system, thing), True)
        thing[1][0]["x"] = 4
        self.assertIs(is_solution(system, thing), False)
        thing[1][0]["x"] = 2
        self.assertIs(is_solution(system, thing), True)
        thing[0]["x"] = 3
        self.assertIs(is_solution(system, thing), False)


class Gauges(unittest.TestCase):
    def test_of_whatever(self):
        for chance in chances(80, 3):
            system = any_even_system(chance, 3, 6, 4, False)
            told = gauge(system)
            if told is not None:
                told = told_again(self, lambda: gauge(system))
                self.assertEqual(shape(told), shape(("gauge", [tuple(part) for part in told[1]])))
                tests = flat(system)[0]
                self.assertIs(is_gauge(thing=swapped(told), system=system), True)
                longer = ("gauge", [(-3 * top, 3 * bottom) for top, bottom in told[1]])
                for other in [*some_bent(told, chance, 60), longer]:
                    right = type(other) in (list, tuple) and len(other) == 2 and other[0] == "gauge"
                    self.assertIs(is_gauge(system, other), right and gauge_is_right(tests, other[1]), other)

    def test_wrong_ones(self):
        system = System(XY, [THREE_FIVE, by(4, 1, 1, 0)])
        for fractions in [
            [(1, 2)], [(1, 2), (1, 2), (0, 1)], [(1, 1), (1, 1)], [(1, 2), (0, 1)], [(0, 1), (1, 4)], [(1, 2), (1, 0)], [(-1, -2), (1, 2)],
            [(1, 8), (1, 8)], [(True, 2), (1, 2)], [(1, 2), (2, True)], [(1, 2), 1], [(1, 2), "12"], [(1, 2, 1), (1, 2)], {},
        ]:
            self.assertIs(is_gauge(system, ("gauge", fractions)), False, fractions)
        for thing in [("gauge",), ("sum", [(1, 2), (1, 2)]), ("gauge", [(1, 2), (1, 2)], []), {"gauge": []}, [(1, 2), (1, 2)]]:
            self.assertIs(is_gauge(system, thing), False, thing)
        for fractions in [[(2, 4), (-3, 6)], [(1, 2), (3, 2)], ([-1, 2], (5, 2))]:
            self.assertIs(is_gauge(system, ["gauge", fractions]), True, fractions)
