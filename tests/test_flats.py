"""[5.1] to [5.5]: opposite, tight, flat, cases."""

import unittest
from itertools import product
from math import gcd

from outofwishes.bodies import holds, is_test
from outofwishes.errors import BadBody, BadCase, BadSystem, BadTest
from outofwishes.flats import cases, denied, flat, plain, tight, told_case
from outofwishes.wishes import System, is_point
from tests.samples import X, Y, any_body, any_test, chances, deep, holders, objects, shape, spoil, swapped, wish_body

ALWAYS, NEVER = ("all", []), ("any", [])
NAMES = ["x", "y"]
POINTS = [{"x": x, "y": y} for x in range(-6, 7) for y in range(-6, 7)]


def kinds_in(body):
    inner = [body[1]] if body[0] == "not" else body[1] if body[0] in ("all", "any") else []
    return {body[0]}.union(*[kinds_in(one) for one in inner])


def row(x, y, constant):
    return ("row", ({"x": x, "y": y}, constant))


class Opposite(unittest.TestCase):
    def test_plain_of_each_kind(self):
        by = ("by", 3, ({"y": 0, "x": 2}, 1))
        same = ["same", [{"y": 1, "x": -1, "z": 0}, 4]]
        for body, told in [
            (X, X), (by, ("by", 3, ({"x": 2}, 1))), (same, ("same", ({"x": -1, "y": 1}, 4))), (ALWAYS, ALWAYS), (NEVER, NEVER),
            (["all", (X, by)], ("all", [X, ("by", 3, ({"x": 2}, 1))])), (("any", [Y, X]), ("any", [Y, X])),
            (("not", X), ("row", ({"x": -1}, -1))), (("not", ALWAYS), NEVER), (("not", NEVER), ALWAYS),
            (("not", ("not", X)), X), (("not", ["not", ("not", X)]), ("row", ({"x": -1}, -1))),
            (("all", [("not", ("any", [X, ("not", Y)]))]), ("all", [("all", [("row", ({"x": -1}, -1)), Y])])),
        ]:
            self.assertEqual(shape(plain(body)), shape(told), body)

    def test_denied_of_each_kind(self):
        term = ({"y": 2, "x": -3, "z": 0}, 5)
        for body, told in [
            (("row", term), ("row", ({"x": 3, "y": -2}, -6))),
            (["same", term], ("any", [("row", ({"x": -3, "y": 2}, 4)), ("row", ({"x": 3, "y": -2}, -6))])),
            (("by", 3, term), ("any", [("by", 3, ({"x": -3, "y": 2}, 4)), ("by", 3, ({"x": -3, "y": 2}, 3))])),
            (("by", 2, term), ("any", [("by", 2, ({"x": -3, "y": 2}, 4))])), (("by", 1, term), NEVER),
            (ALWAYS, NEVER), (NEVER, ALWAYS), (("not", X), X), (("not", ("not", X)), ("row", ({"x": -1}, -1))),
            (["all", (X, Y)], ("any", [("row", ({"x": -1}, -1)), ("row", ({"y": -1}, -1))])),
            (("any", [Y, ("not", X)]), ("all", [("row", ({"y": -1}, -1)), X])),
        ]:
            self.assertEqual(shape(denied(body)), shape(told), body)

    def test_the_example(self):
        body = ("any", [("row", ({"x": 1}, 0)), ("by", 3, ({"x": 1}, 0))])
        told = ("all", [("row", ({"x": -1}, -1)), ("any", [("by", 3, ({"x": 1}, -1)), ("by", 3, ({"x": 1}, -2))])])
        self.assertEqual(shape(denied(body=body)), shape(told))
        found = [[("row", ({"x": -1}, -1)), ("by", 3, ({"x": 1}, 2))], [("row", ({"x": -1}, -1)), ("by", 3, ({"x": 1}, 1))]]
        self.assertEqual(shape(cases(denied(body))), shape(found))

    def test_many_rests(self):
        told = denied(("by", 60, ({"x": 1}, 0)))
        self.assertEqual(told, ("any", [("by", 60, ({"x": 1}, -rest)) for rest in range(1, 60)]))

    def test_just_one(self):
        for chance in chances(200):
            body = any_body(chance, NAMES, 4)
            same, other = plain(body), denied(body)
            self.assertNotIn("not", kinds_in(same) | kinds_in(other))
            for point in chance.sample(POINTS, 12):
                self.assertIs(holds(same, point), holds(body, point))
                self.assertIs(holds(other, point), not holds(body, point))
            self.assertEqual(plain(("not", body)), other)
            self.assertEqual(denied(("not", body)), same)
            self.assertEqual(plain(same), same)
            self.assertEqual(shape(plain(swapped(body))), shape(same))

    def test_bad_body(self):
        for thing in objects():
            for asked in [plain, denied, cases]:
                with self.assertRaises(BadBody) as caught:
                    asked(thing)
                self.assertIs(caught.exception.body, thing)

    def test_new_throughout(self):
        body = ("all", [wish_body(), ("not", ("same", ({"a": 1}, 0))), ("not", ("by", 4, ({"a": 1}, 0)))])
        before = shape(body)
        for asked in [plain, denied, cases]:
            told = asked(body)
            held = holders(told)
            self.assertEqual(len({id(one) for one in held}), len(held))
            self.assertFalse({id(one) for one in held} & {id(one) for one in holders(body)})
            kept = shape(told)
            spoil(told)
            self.assertEqual(shape(body), before)
            self.assertEqual(shape(asked(body)), kept)


class Tight(unittest.TestCase):
    def test_rows(self):
        for test, told in [
            (row(4, -6, 3), row(2, -3, 1)), (row(4, -6, -3), row(2, -3, -2)), (row(2, 0, -1), ("row", ({"x": 1}, -1))),
            (row(-3, 0, -1), ("row", ({"x": -1}, -1))), (row(-3, 0, 1), ("row", ({"x": -1}, 0))), (row(5, 7, -4), row(5, 7, -4)),
            (row(0, 0, 0), True), (row(0, 0, 7), True), (row(0, 0, -1), False), (("row", ({}, -1)), False),
            (["row", [{"y": 10, "x": -5, "z": 0}, 10 ** 15 + 1]], ("row", ({"x": -1, "y": 2}, 2 * 10 ** 14))),
        ]:
            self.assertEqual(shape(tight(test)), shape(told), test)

    def test_sames(self):
        for test, told in [
            (("same", ({"x": -4, "y": 6}, 2)), ("same", ({"x": 2, "y": -3}, -1))), (("same", ({"x": -4, "y": 6}, 3)), False),
            (("same", ({"y": 6, "x": 4}, 0)), ("same", ({"x": 2, "y": 3}, 0))), (("same", ({"y": -2}, 4)), ("same", ({"y": 1}, -2))),
            (("same", ({"x": 0, "y": -2}, -4)), ("same", ({"y": 1}, 2))), (("same", ({"y": 1, "x": -1}, 0)), ("same", ({"x": 1, "y": -1}, 0))),
            (("same", ({}, 0)), True), (("same", ({"x": 0}, 1)), False), (("same", ({}, -1)), False), (("same", ({"x": 2}, -1)), False),
        ]:
            self.assertEqual(shape(tight(test)), shape(told), test)

    def test_bys(self):
        for test, told in [
            (("by", 6, ({"x": 4, "y": 8}, 10)), ("by", 3, ({"x": 2, "y": 1}, 2))), (("by", 4, ({"x": 2}, 1)), False),
            (("by", 3, ({"x": 1}, -1)), ("by", 3, ({"x": 1}, 2))), (("by", 5, ({"x": -1, "y": 10}, -13)), ("by", 5, ({"x": 4}, 2))),
            (("by", 1, ({"x": 1}, 1)), True), (("by", 3, ({"x": 6, "y": -3}, 9)), True), (("by", 3, ({"x": 6, "y": -3}, 8)), False),
            (("by", 4, ({}, 8)), True), (("by", 4, ({}, -7)), False), (("by", 6, ({"x": 3}, 3)), ("by", 2, ({"x": 1}, 1))),
            (("by", 6, ({"x": 3, "y": 2}, 1)), ("by", 6, ({"x": 3, "y": 2}, 1))), (("by", 12, ({"x": 8}, 4)), ("by", 3, ({"x": 2}, 1))),
        ]:
            self.assertEqual(shape(tight(test)), shape(told), test)

    def test_bys_need_not_be_one(self):
        self.assertNotEqual(tight(("by", 5, ({"x": 1}, 0))), tight(("by", 5, ({"x": 2}, 0))))

    def test_at_random(self):
        for chance in chances(400):
            test = any_test(chance, NAMES, 9)
            told = tight(test)
            for point in chance.sample(POINTS, 20):
                self.assertIs(told if isinstance(told, bool) else holds(told, point), holds(test, point), test)
            if not isinstance(told, bool):
                self.assertTrue(is_test(told))
                self.assertEqual(shape(tight(told)), shape(told))
                self.assertEqual(told[0], test[0])
                self.assertEqual(gcd(*told[-1][0].values(), *([told[1]] if told[0] == "by" else [])), 1)
            self.assertEqual(shape(tight(swapped(test))), shape(told))

    def test_it_holds_one_tight_test(self):
        for kind in ["row", "same"]:
            found = {}
            for x, y, constant in product(range(-2, 3), range(-2, 3), range(-3, 4)):
                test = (kind, ({"x": x, "y": y}, constant))
                told = tight(test)
                if not isinstance(told, bool):
                    so = tuple([holds(test, point) for point in POINTS])
                    self.assertEqual(found.setdefault(so, told), told)

    def test_bad_test(self):
        for thing in objects() + [ALWAYS, ("not", X), ("any", [X])]:
            with self.assertRaises(BadTest) as caught:
                tight(thing)
            self.assertIs(caught.exception.test, thing)
        self.assertIs(tight(test=("row", ({}, 0))), True)

    def test_nothing_is_changed(self):
        test = ("row", ({"y": 2, "x": 4}, 1))
        tight(test)[1][0]["z"] = 1
        self.assertEqual(shape(test), shape(("row", ({"y": 2, "x": 4}, 1))))
        self.assertEqual(tight(test), ("row", ({"x": 2, "y": 1}, 0)))


class Flat(unittest.TestCase):
    def test_opened(self):
        z = ("row", ({"z": 1}, 0))
        for bodies, told in [
            ([], ([], [])), ([Y, X], ([Y, X], [])), ([("all", [X, ("all", [Y, X])]), Y], ([X, Y, X, Y], [])), ([ALWAYS], ([], [])),
            ([NEVER], ([], [[]])), ([("any", [X])], ([X], [])), ([("any", [X, Y]), z], ([z], [[X, Y]])),
            ([("any", [("all", [X, ("any", [("any", [Y, z])])])])], ([X], [[Y, z]])),
            ([("any", [("all", [X, Y]), ("any", [z])]), NEVER], ([], [[("all", [X, Y]), ("any", [z])], []])),
            ([("all", [("any", [X, Y]), z, ("any", [z, Y, X])]), X], ([z, X], [[X, Y], [z, Y, X]])),
            ([("not", ("any", [X, Y]))], ([("row", ({"x": -1}, -1)), ("row", ({"y": -1}, -1))], [])),
            ([("not", ("same", ({"x": 1}, 0))), ("not", ("by", 1, ({}, 0))), ("not", ("by", 2, ({"x": 1}, 0)))],
             ([("by", 2, ({"x": 1}, -1))], [[("row", ({"x": 1}, -1)), ("row", ({"x": -1}, -1))], []])),
            ([("any", [("not", ("all", [X, Y])), z])], ([], [[("any", [("row", ({"x": -1}, -1)), ("row", ({"y": -1}, -1))]), z]])),
            ([("row", ({"y": 2, "x": 4}, 1)), ("same", ({"x": 0}, 1))], ([("row", ({"x": 4, "y": 2}, 1)), ("same", ({}, 1))], [])),
        ]:
            self.assertEqual(shape(flat(System(["x", "y", "z"], bodies))), shape(told), bodies)

    def test_it_holds(self):
        for chance in chances(200):
            system = System(NAMES, [any_body(chance, NAMES, 3) for _ in range(chance.randint(0, 3))])
            tests, anys = flat(system)
            self.assertTrue(all(is_test(test) for test in tests))
            self.assertTrue(all(len(bodies) != 1 for bodies in anys))
            for point in chance.sample(POINTS, 15):
                so = all(holds(test, point) for test in tests)
                some = all(any(holds(body, point) for body in bodies) for bodies in anys)
                self.assertIs(is_point(system, point), so and some)

    def test_the_callers(self):
        system = System(NAMES, [X, ("any", [X, Y]), ("not", ("same", ({"x": 1}, 0)))])
        told = flat(system)
        kept = shape(told)
        held = holders(told)
        self.assertEqual(len({id(one) for one in held}), len(held))
        spoil(told)
        self.assertEqual(shape(flat(system=system)), kept)

    def test_bad_system(self):
        for thing in objects() + [[X], (["x"], [X])]:
            if not isinstance(thing, System):
                with self.assertRaises(BadSystem) as caught:
                    flat(thing)
                self.assertIs(caught.exception.system, thing)


def cases_by_hand(body):
    """The cases of a plain body, all choices first and what stood before left out at the end alone."""
    if body[0] == "any":
        return [case for inner in body[1] for case in cases_by_hand(inner)]
    if body[0] == "all":
        return [sum(choice, []) for choice in product(*[cases_by_hand(inner) for inner in body[1]])]
    told = tight(body)
    return [[]] if told is True else [] if told is False else [[told]]


def without_doubles(things):
    return [thing for at, thing in enumerate(things) if thing not in things[:at]]


class Cases(unittest.TestCase):
    def test_of_tests(self):
        for test, told in [
            (X, [[X]]), (row(4, -6, 3), [[row(2, -3, 1)]]), (("row", ({}, 0)), [[]]), (("row", ({}, -1)), []),
            (("same", ({"x": 2}, 1)), []), (("by", 1, ({"x": 1}, 0)), [[]]), (("by", 4, ({"x": 2}, 2)), [[("by", 2, ({"x": 1}, 1))]]),
        ]:
            self.assertEqual(shape(cases(test)), shape(told), test)

    def test_order(self):
        a, b, c, d, e, f = [("row", ({name: 1}, 0)) for name in "abcdef"]
        for body, told in [
            (ALWAYS, [[]]), (NEVER, []), (("any", [b, a]), [[b], [a]]), (("all", [b, a]), [[b, a]]),
            (("all", [("any", [a, b]), ("any", [c, d]), ("any", [e, f])]),
             [[a, c, e], [a, c, f], [a, d, e], [a, d, f], [b, c, e], [b, c, f], [b, d, e], [b, d, f]]),
            (("all", [("any", [a, ("all", [b, c])]), d]), [[a, d], [b, c, d]]), (("any", [("any", [a, b]), ("all", [c, d])]), [[a], [b], [c, d]]),
            (("all", [("any", [a, b]), NEVER]), []), (("any", [NEVER, a, ALWAYS]), [[a], []]), (("all", [ALWAYS, a, ("any", [b])]), [[a, b]]),
            (("not", ("all", [a, b])), [[("row", ({"a": -1}, -1))], [("row", ({"b": -1}, -1))]]),
        ]:
            self.assertEqual(shape(cases(body)), shape(told), body)

    def test_left_out(self):
        twice = ("row", ({"x": 2}, 1))
        for body, told in [
            (("all", [X, X]), [[X]]), (("all", [X, Y, twice]), [[X, Y]]), (("any", [X, X]), [[X]]), (("any", [X, Y, twice]), [[X], [Y]]),
            (("all", [("any", [X, Y]), ("any", [Y, X])]), [[X, Y], [X], [Y], [Y, X]]),
            (("all", [("any", [X, Y]), ("any", [X, Y])]), [[X], [X, Y], [Y, X], [Y]]),
            (("any", [("all", [X, Y]), ("all", [Y, X]), ("all", [X, Y, X])]), [[X, Y], [Y, X]]), (("any", [ALWAYS, ("all", [ALWAYS])]), [[]]),
            (("all", [("same", ({"x": 1}, 0)), ("same", ({"x": -3}, 0))]), [[("same", ({"x": 1}, 0))]]),
        ]:
            self.assertEqual(shape(cases(body)), shape(told), body)

    def test_at_random(self):
        for chance in chances(300):
            body = any_body(chance, NAMES, 3)
            if len(cases_by_hand(plain(body))) > 300:
                continue
            told = cases(swapped(body))
            by_hand = [without_doubles(case) for case in cases_by_hand(plain(body))]
            self.assertEqual(shape(told), shape(without_doubles(by_hand)))
            for point in chance.sample(POINTS, 10):
                self.assertIs(any(all(holds(test, point) for test in case) for case in told), holds(body, point))

    def test_as_many_as_the_limit_lets(self):
        rows = [("row", ({"x": 1}, number)) for number in range(300)]
        self.assertEqual(len(cases(body=("any", rows))), 300)
        body = ("all", [("any", rows[:17]), ("any", [("row", ({"y": 1}, number)) for number in range(17)])])
        self.assertEqual(len(cases(body)), 289)
        self.assertEqual(cases(deep(X, 20, lambda one: ("all", [one, one]) if one == X else ("any", [one]))), [[X]])

    def test_case_list(self):
        self.assertEqual(shape(told_case((["row", [{"x": 1, "y": 0}, 0]],))), shape([X]))
        self.assertEqual(told_case([]), [])
        for case, index in [(None, 0), ("", 0), ({}, 0), (X, 0), ([X, ("not", X), 0], 1), ([X, Y, ("all", [])], 2)]:
            with self.assertRaises(BadCase) as caught:
                told_case(case)
            self.assertEqual(caught.exception.index, index)
