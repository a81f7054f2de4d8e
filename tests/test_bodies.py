"""[3.2], [3.3]: tests and bodies."""

import unittest

from outofwishes.bodies import holds, is_body, is_test, names_in, told_body
from outofwishes.errors import BadBody, BadNumbers
from tests.samples import NO_NAMES, X, Y, any_body, chances, deep, holders, objects, shape, spoil, swapped, wish_body

NEVER = ("any", [])
ALWAYS = ("all", [])


def so(body, numbers):
    """What a body is, told in another way than the package does."""
    kind, last = body[0], body[-1]
    if kind == "not":
        return not so(last, numbers)
    if kind in ("all", "any"):
        found = {so(inner, numbers) for inner in last}
        return False not in found if kind == "all" else True in found
    value = last[1]
    for name, coefficient in last[0].items():
        value += coefficient * numbers.get(name, 0)
    return {"row": value >= 0, "same": value == 0}.get(kind, kind == "by" and value % body[1] == 0)


class IsBody(unittest.TestCase):
    def test_tests(self):
        for thing in [
            X, ["same", [{}, 0]], ("by", 1, ({}, 0)), ["by", 10 ** 20, ({"a": 0}, -1)], ("row", [{"b": 1, "a": 0}, 9]),
        ]:
            self.assertIs(is_body(thing), True, thing)
            self.assertIs(is_test(thing), True, thing)

    def test_put_together(self):
        for thing in [
            ALWAYS, NEVER, ("all", ()), ["any", ()], ("not", X), ["not", ["not", ["all", (X, ["any", [Y]])]]],
            deep(X, 48, lambda body: ("not", body)), deep(ALWAYS, 24, lambda body: ["any", (Y, body)]), wish_body(),
        ]:
            self.assertIs(is_body(thing), True, thing)
            self.assertIs(is_test(thing), False, thing)
        self.assertIs(is_body(thing=X), True)

    def test_what_is_none(self):
        for thing in objects():
            self.assertIs(is_body(thing), False, thing)
            self.assertIs(is_body(("not", thing)), False, thing)
            self.assertIs(is_body(("all", [X, thing])), False, thing)
            self.assertIs(is_body(("any", [thing, X])), False, thing)

    def test_wrong_at_any_depth(self):
        wrong = ("row", ({"x": True}, 0))
        for many in range(1, 24):
            self.assertIs(is_body(deep(X, many, lambda body: ("any", [X, ("not", body)]))), True)
            self.assertIs(is_body(deep(wrong, many, lambda body: ("any", [X, ("not", body)]))), False)

    def test_names_of_terms(self):
        for name in NO_NAMES:
            self.assertIs(is_body(("not", ("by", 2, ({"a": 1, name: 0}, 0)))), False, name)

    def test_strings_are_no_lists(self):
        for thing in ["row", "no", ("all", ""), ("any", "a"), ("row", "ab"), "", ("not", "")]:
            self.assertIs(is_body(thing), False, thing)


class NamesIn(unittest.TestCase):
    def test_names(self):
        self.assertEqual(names_in(wish_body()), ["a", "b", "x", "y"])
        body = ["not", ["any", (("row", ({"z": 1, "b": 0, "a10": 1}, 0)), ["by", 2, [{"a9": -1, "z": 2}, 0]])]]
        self.assertEqual(shape(names_in(body=body)), shape(["a10", "a9", "z"]))
        self.assertEqual(names_in(ALWAYS), [])
        self.assertEqual(names_in(("same", ({"a": 0}, 1))), [])

    def test_bad_body(self):
        for thing in objects():
            with self.assertRaises(BadBody) as caught:
                names_in(thing)
            self.assertIs(caught.exception.body, thing)

    def test_new_each_time(self):
        names = names_in(X)
        names.append("y")
        self.assertEqual(names_in(X), ["x"])


class Holds(unittest.TestCase):
    def test_near_0(self):
        term = ({"x": 1}, 0)
        for value, row, same, by in [(-3, False, False, False), (-2, False, False, True), (-1, False, False, False),
                                     (0, True, True, True), (1, True, False, False), (2, True, False, True)]:
            self.assertIs(holds(("row", term), {"x": value}), row)
            self.assertIs(holds(("same", term), {"x": value}), same)
            self.assertIs(holds(("by", 2, term), {"x": value}), by)
            self.assertIs(holds(("by", 1, term), {"x": value}), True)

    def test_the_example(self):
        self.assertIs(holds(("not", ("by", 2, ({"x": 1}, 0))), {"x": -3}), True)

    def test_great_numbers(self):
        great = 10 ** 15
        term = ({"x": 10 ** 6, "y": -(10 ** 6)}, 1)
        self.assertIs(holds(("same", term), {"x": great, "y": great}), False)
        self.assertIs(holds(("row", term), {"x": great - 1, "y": great}), False)
        self.assertIs(holds(("row", term), {"x": great, "y": great}), True)
        self.assertIs(holds(("by", great + 1, ({"x": 1}, great)), {"x": 10 ** 30 * (great + 1) - great}), True)
        self.assertIs(holds(("by", great + 1, ({"x": 1}, great)), {"x": 10 ** 30 * (great + 1) - great + 1}), False)

    def test_of_none(self):
        self.assertIs(holds(ALWAYS, {}), True)
        self.assertIs(holds(NEVER, {}), False)
        self.assertIs(holds(("not", NEVER), {}), True)
        self.assertIs(holds(("all", [NEVER]), {}), False)
        self.assertIs(holds(("any", [NEVER, ALWAYS]), {"further": 1}), True)

    def test_nots_within_one_another(self):
        for many in range(21):
            self.assertIs(holds(deep(X, many, lambda body: ("not", body)), {"x": -1}), many % 2 == 1)

    def test_wanted_are_just_names_in(self):
        body = ("any", [ALWAYS, ("row", ({"y": 1, "x": 0}, 0))])
        self.assertIs(holds(body, {"y": -1}), True)
        for numbers in [{}, {"x": 1}, {"y": True}, {"y": 1, "A": 1}, None, [], "y", [("y", 1)]]:
            with self.assertRaises(BadNumbers) as caught:
                holds(body, numbers)
            self.assertIs(caught.exception.numbers, numbers)

    def test_the_body_first(self):
        for thing in objects():
            with self.assertRaises(BadBody) as caught:
                holds(thing, None)
            self.assertIs(caught.exception.body, thing)
        self.assertIs(holds(numbers={"x": 0}, body=X), True)

    def test_at_random(self):
        names = ["x", "y", "z"]
        for chance in chances(300):
            body = any_body(chance, names, 4)
            numbers = {name: chance.randint(-6, 6) for name in names}
            self.assertIs(holds(body, numbers), so(body, numbers), (body, numbers))
            self.assertIs(holds(swapped(body), swapped(numbers)), so(body, numbers))


class Told(unittest.TestCase):
    def test_told_form(self):
        body = ["not", ["all", (["by", 3, [{"b": 1, "a": 2, "c": 0}, 4]], ["any", ()], ["same", [{}, 0]])]]
        told = ("not", ("all", [("by", 3, ({"a": 2, "b": 1}, 4)), ("any", []), ("same", ({}, 0))]))
        self.assertEqual(shape(told_body(body)), shape(told))

    def test_new_throughout(self):
        term = ({"x": 1}, 0)
        body = ("all", [("row", term), ("same", term), ("not", ("row", term))])
        told = told_body(body)
        held = [id(one) for one in holders(told) + holders(body)]
        self.assertEqual(len(holders(told)), 4)
        self.assertEqual(len({id(one) for one in holders(told)}), 4)
        self.assertEqual(len(set(held)), 4 + 2)
        spoil(told)
        self.assertEqual(body, ("all", [("row", term), ("same", term), ("not", ("row", term))]))
