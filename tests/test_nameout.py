"""[16.1] to [16.4]: all values of a name, and cases without it."""

import math
import unittest

from outofwishes.bodies import names_in
from outofwishes.errors import BadCase, BadName, BadNumbers
from outofwishes.nameout import set_of, without
from tests.checks import figures, is_so_by_hand, refused, told_again, told_body_by_hand
from tests.samples import NO_NAMES, NO_NUMBERS_OF_A, X, chances, objects, shape, swapped

EXAMPLE = [("row", ({"x": 3, "a": -1}, 0)), ("row", ({"x": -2, "b": 1}, 0)), ("by", 2, ({"x": 1, "a": 1}, 0))]
NO_CASES = [(None, 0), (1, 0), ("row", 0), ("", 0), ({}, 0), (X, 0), ([None], 0), ([X, ("not", X)], 1), ([X, X, ("all", [X])], 2), ((X, "row"), 1), ([X, []], 1), ([X, ("by", 0, ({}, 0))], 1), ([X, ("row", ({"x": True}, 0)), None], 1), (len, 0)]


def row(x, constant, **others):
    return ("row", ({"x": x, **others}, constant))


def by(many, x, constant=0, **others):
    return ("by", many, ({"x": x, **others}, constant))


def same(x, constant, **others):
    return ("same", ({"x": x, **others}, constant))


def value_exists(case, name, numbers):
    """Whether there is a value, by trying all integers that can be an end and as many behind as all m together."""
    period = math.lcm(1, *[test[1] for test in case if test[0] == "by"])
    ends = [0]
    for test in case:
        part = test[-1][0].get(name, 0)
        if test[0] != "by" and part != 0:
            rest = test[-1][1] + sum(number * numbers[other] for other, number in test[-1][0].items() if other != name and number != 0)
            ends += [-rest // part, -(rest // part)]
    tried = {end + way for end in ends for way in range(-period, period + 1)}
    return any(all(is_so_by_hand(test, {**numbers, name: number}) for test in case) for number in tried)


def any_case(chance):
    """A case at random, its names, and one of them, or another one."""
    names = chance.sample(["a", "b", "c", "x", "zz"], chance.randint(1, 5))
    name = chance.choice(names + names + ["q"])
    most = chance.choice([5, 30, 10 ** 9])
    case, whole = [], 1
    for _ in range(chance.randint(0, 8)):
        kind = chance.choice(["row"] * 5 + ["same", "by", "by"])
        few = chance.sample(names, chance.randint(0, len(names)))
        term = ({one: chance.randint(-4, 4) if one == name else chance.randint(-10, 10) for one in few}, chance.randint(-most, most))
        if kind == "by":
            many = chance.choice([many for many in range(1, 13) if math.lcm(many, whole) <= 12])
            whole = math.lcm(many, whole)
            case.append(("by", many, term))
        else:
            case.append((kind, term))
    return case, name, [one for one in names if one != name]


class SetOf(unittest.TestCase):
    def look(self, case, expected, name="x", **numbers):
        told = told_again(self, lambda: set_of(case, name, numbers))
        self.assertEqual(shape(told), shape(expected), (case, numbers))

    def test_the_example(self):
        self.look(EXAMPLE, (1, 3, 2, 1), a=1, b=9)
        self.look(EXAMPLE, (1, 1, 1, 0), a=1, b=5)
        self.look(EXAMPLE, None, a=1, b=1)
        self.look([EXAMPLE[0], EXAMPLE[2]], (1, None, 2, 1), a=1)
        self.look([EXAMPLE[1], EXAMPLE[2]], (None, 3, 2, 1), a=1, b=7)

    def test_ends_missing(self):
        self.look([], (None, None, 1, 0))
        self.look([row(1, 5)], (-5, None, 1, 0))
        self.look([row(-1, 5)], (None, 5, 1, 0))
        self.look([by(6, 1, 1)], (None, None, 6, 5))
        self.look([by(6, 1, 1), row(1, 0)], (5, None, 6, 5))
        self.look([by(6, 1, 1), row(-1, 0)], (None, -1, 6, 5))
        self.look([("row", ({"a": 1}, 0))], (None, None, 1, 0), a=0)
        self.look([("row", ({"a": 1}, 0))], None, a=-1)
        self.look([("same", ({"a": 1}, 0))], None, a=1)
        self.look([("by", 3, ({"a": 1}, 0))], None, a=4)
        self.look([("by", 3, ({"a": 1}, 0))], (None, None, 1, 0), a=6)

    def test_periods_and_rests(self):
        for case, expected in [
            ([by(6, 4, 2)], (None, None, 3, 1)), ([by(6, 4, 1)], None), ([by(6, 12, 6)], (None, None, 1, 0)), ([by(6, 12, 5)], None),
            ([by(4, 1), by(6, 1)], (None, None, 12, 0)), ([by(4, 1), by(6, 1, 1)], None), ([by(4, 1, 2), by(6, 1, 2)], (None, None, 12, 10)),
            ([by(2, 1), by(2, 1, 1)], None), ([by(3, 2, 1), by(4, 3, 1)], (None, None, 12, 1)), ([by(1, 5, 3)], (None, None, 1, 0)),
            ([by(12, -8, 4)], (None, None, 3, 2)), ([by(9, 6, 3), by(3, 1, 2)], (None, None, 3, 1)),
        ]:
            self.look(case, expected)

    def test_rounded_by_rows_and_sames_of_either_sign(self):
        for case, expected in [
            ([row(3, 7)], (-2, None, 1, 0)), ([row(3, -7)], (3, None, 1, 0)), ([row(-3, 7)], (None, 2, 1, 0)), ([row(-3, -7)], (None, -3, 1, 0)),
            ([same(3, 6)], (-2, -2, 1, 0)), ([same(-3, 6)], (2, 2, 1, 0)), ([same(3, 7)], None), ([same(-3, 7)], None), ([same(0, 0)], (None, None, 1, 0)),
            ([same(0, 1)], None), ([row(0, 0)], (None, None, 1, 0)), ([row(0, -1)], None), ([row(3, -1), row(-3, 2)], None), ([row(2, -1), row(-2, 2)], (1, 1, 1, 0)),
            ([same(2, -6), by(2, 1)], None), ([same(2, -6), by(2, 1, 1)], (3, 3, 1, 0)), ([same(1, -3), same(2, -6)], (3, 3, 1, 0)),
            ([same(1, -3), same(2, -8)], None), ([same(1, -3), row(1, -4)], None), ([same(1, -3), row(-1, 2)], None), ([row(1, -4), row(-1, 4)], (4, 4, 1, 0)),
            ([row(1, 0), row(-1, 5), by(3, 1, 1)], (2, 5, 3, 2)), ([row(1, 0), row(-1, 4), by(3, 1, 1)], (2, 2, 1, 0)), ([row(1, 0), row(-1, 1), by(3, 1, 1)], None),
            ([row(1, -10 ** 9), row(-1, 10 ** 9), by(10, 1)], (10 ** 9, 10 ** 9, 1, 0)), ([row(7, 10 ** 9)], (-(10 ** 9 // 7), None, 1, 0)),
        ]:
            self.look(case, expected)

    def test_numbers_for_the_name_go_for_nothing(self):
        self.look(EXAMPLE, (1, 3, 2, 1), a=1, b=9, x=10 ** 9, c=4)
        self.look(EXAMPLE, (None, None, 1, 0), name="c", a=1, b=9, x=1)
        self.look(EXAMPLE, None, name="c", a=1, b=9, x=5, c=3)
        self.look([row(1, 0, a=0)], (0, None, 1, 0))

    def test_at_random(self):
        found = {}
        for chance in chances(300, 41):
            case, name, others = any_case(chance)
            for _ in range(4):
                size = chance.choice([3, 20, 10 ** 9])
                numbers = {one: chance.randint(-size, size) for one in others}
                told = set_of(case, name, numbers)
                self.assertEqual(told is not None, value_exists(case, name, numbers))
                if told is None:
                    continue
                least, most, period, rest = told
                found[(least is None, most is None, period > 1)] = True
                self.assertTrue(0 <= rest < period)
                near = [end for end in [least, most, 0] if end is not None]
                for number in [end + way for end in near for way in range(-14, 15)]:
                    between = (least is None or least <= number) and (most is None or number <= most)
                    right = all(is_so_by_hand(test, {**numbers, name: number}) for test in case)
                    self.assertIs(right, between and number % period == rest, (case, name, numbers, number))
                if least is not None:
                    self.assertEqual(least % period, rest)
                if least is not None and least == most:
                    self.assertEqual((period, rest), (1, 0))
                else:
                    parts = [test[1] // math.gcd(test[1], test[2][0].get(name, 0)) for test in case if test[0] == "by"]
                    self.assertEqual(period, math.lcm(1, *parts))
        self.assertGreaterEqual(len(found), 6)


class Without(unittest.TestCase):
    def look_through(self, case, name, others, chance=None, many=0):
        """What without tells, looked through at drawn numbers."""
        told = told_again(self, lambda: without(case, name))
        self.assertIs(type(told), list)
        self.assertLess(figures(told), 1000)
        for one in told:
            self.assertIs(type(one), list)
            for test in one:
                self.assertEqual(shape(test), shape(told_body_by_hand(test)))
                self.assertNotIn(name, names_in(test))
                self.assertLessEqual(set(names_in(test)), set(others))
        for _ in range(many):
            size = chance.choice([3, 20, 20, 10 ** 9])
            numbers = {one: chance.randint(-size, size) for one in others}
            some = any(all(is_so_by_hand(test, numbers) for test in one) for one in told)
            self.assertEqual(some, value_exists(case, name, numbers), (case, name, numbers))
            self.assertEqual(some, set_of(case, name, numbers) is not None)
        return told

    def test_the_example(self):
        case = [("row", ({"x": 1, "a": -1}, 0)), ("row", ({"x": -3, "b": 1}, 0))]
        told = self.look_through(case, "x", ["a", "b"], chances(1)[0], 50)
        for a in range(-9, 10):
            for b in range(-30, 30):
                self.assertIs(any(all(is_so_by_hand(test, {"a": a, "b": b}) for test in one) for one in told), 3 * a <= b)
        self.look_through(EXAMPLE, "x", ["a", "b"], chances(1)[0], 50)

    def test_each_kind(self):
        chance = chances(1, 42)[0]
        for case in [
            [row(3, 0, a=-1), row(2, 0, b=-1)], [row(-3, 0, a=-1), row(-2, 0, b=-1), by(3, 2, 1, a=1)], [by(4, 2, 1, a=3), by(3, 1, 0, b=1)],
            [same(3, 1, a=2), row(2, 0, b=1), by(2, 1, 0, a=1)], [same(4, 0, a=1), same(3, 0, b=1)], [row(4, 0, a=1), row(-4, 3, a=-1)],
            [row(4, 0, a=1), row(-3, 1, b=-1), by(12, 3, 2, a=2)], [row(4, 0, a=1), row(3, 0, b=1), row(-4, 5, a=-1), row(-2, 7, b=-1)],
            [("row", ({"a": 1}, 3)), ("by", 5, ({"b": 2}, 1))], [row(2, 0, a=1), row(-2, 0, a=-1)], [by(6, 4, 0, a=1)], [by(6, 4, 0, a=2), by(4, 2, 0, b=1)],
        ]:
            self.look_through(case, "x", ["a", "b"], chance, 60)

    def test_of_no_tests_and_of_none_at_all(self):
        self.assertEqual(self.look_through([], "x", []), [[]])
        self.assertEqual(self.look_through([row(1, 0)], "x", []), [[]])
        self.assertEqual(self.look_through([row(1, 0), row(-1, -1)], "x", []), [])
        self.assertEqual(self.look_through([by(2, 2, 1)], "x", []), [])
        self.assertEqual(self.look_through([("row", ({}, -1))], "x", []), [])
        self.assertEqual(self.look_through([("row", ({"a": 0, "x": 0}, 0))], "x", []), [[]])
        self.look_through([("row", ({"a": 1}, 0))], "x", ["a"], chances(1)[0], 10)

    def test_at_random(self):
        for chance in chances(300, 43):
            case, name, others = any_case(chance)
            self.look_through(case, name, others, chance, 12)


class Errors(unittest.TestCase):
    def test_bad_case(self):
        for thing, index in NO_CASES:
            for ask in [lambda: set_of(thing, None, None), lambda: without(thing, None)]:
                with self.assertRaises(BadCase) as caught:
                    ask()
                self.assertEqual(caught.exception.index, index)
                self.assertIs(type(caught.exception.index), int)

    def test_bad_name(self):
        for thing in NO_NAMES + objects():
            if type(thing) is not str or thing in NO_NAMES:
                refused(self, BadName, "name", lambda: set_of(EXAMPLE, thing, None), thing)
                refused(self, BadName, "name", lambda: without(EXAMPLE, thing), thing)

    def test_bad_numbers(self):
        for thing in NO_NUMBERS_OF_A:
            if thing != {"a": 1, "c": 1}:
                refused(self, BadNumbers, "numbers", lambda: set_of([row(1, 0, a=1)], "x", thing), thing)
        for thing in [{"a": 1}, {"b": 1}, {"a": 1, "x": 2}, {"a": 1, "b": None}, {"a": 1, "b": 1, "x": True}, {"a": 1, "b": 1, "of": 1}]:
            refused(self, BadNumbers, "numbers", lambda: set_of(EXAMPLE, "x", thing), thing)


class Passed(unittest.TestCase):
    def test_what_means_the_same(self):
        numbers = {"b": 9, "a": 1}
        zeros = [(*test[:-1], ({**test[-1][0], "q": 0}, test[-1][1])) for test in EXAMPLE]
        for case in [EXAMPLE, tuple(EXAMPLE), swapped(EXAMPLE), zeros]:
            self.assertEqual(set_of(numbers=numbers, name="x", case=case), (1, 3, 2, 1))
            self.assertEqual(shape(without(name="x", case=case)), shape(without(EXAMPLE, "x")))

    def test_nothing_is_changed(self):
        case, numbers = swapped(swapped(EXAMPLE)), {"a": 1, "b": 9}
        set_of(case, "x", numbers)
        without(case, "x")
        self.assertEqual((case, numbers), (EXAMPLE, {"a": 1, "b": 9}))
        told = without(case, "x")
        case[0][1][0]["a"] = 5
        case.pop()
        self.assertEqual(without(EXAMPLE, "x"), told)
