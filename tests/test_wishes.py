"""[3.4] to [3.6]: wishes and systems."""

import unittest

from outofwishes.bodies import holds, names_in
from outofwishes.errors import (
    BadBodies, BadBody, BadFound, BadGiven, BadInputs, BadNames, BadOutputs, BadSystem, StrangeName,
)
from outofwishes.wishes import System, Wish, is_point
from tests.samples import (
    BAD_NAMES, NAMES, NO_LISTS, NO_NUMBERS_OF_A, X, Y, any_body, chances, deep, holders, objects, program_p, shape,
    spoil, swapped, wish, wish_body,
)

ALWAYS = ("all", [])
Y_OF_B = ["by", 2, [{"b": -1}, 1]]


class MakingWishes(unittest.TestCase):
    def test_what_is_told(self):
        made = Wish(("z", "a1"), ["of2", "b"], ["any", (["row", [{"z": 1, "b": 0, "a1": 2}, 3]], ["not", Y_OF_B])])
        self.assertEqual(shape(made.inputs()), shape(["z", "a1"]))
        self.assertEqual(shape(made.outputs()), shape(["of2", "b"]))
        body = ("any", [("row", ({"a1": 2, "z": 1}, 3)), ("not", ("by", 2, ({"b": -1}, 1)))])
        self.assertEqual(shape(made.body()), shape(body))

    def test_no_names_at_all(self):
        made = Wish([], (), ALWAYS)
        self.assertEqual((made.inputs(), made.outputs(), made.body()), ([], [], ("all", [])))
        self.assertEqual(Wish(body=ALWAYS, outputs=[], inputs=[]), made)
        self.assertEqual(Wish(NAMES, [], ALWAYS).inputs(), NAMES)

    def test_bad_inputs(self):
        for inputs, index in BAD_NAMES:
            with self.assertRaises(BadInputs) as caught:
                Wish(inputs, None, None)
            self.assertEqual(shape(caught.exception.index), shape(index), inputs)

    def test_bad_outputs(self):
        for outputs, index in BAD_NAMES:
            with self.assertRaises(BadOutputs) as caught:
                Wish(["x"], outputs, None)
            self.assertEqual(shape(caught.exception.index), shape(index), outputs)

    def test_outputs_that_are_inputs(self):
        for outputs, index in [(["x", "a", "a"], 1), (["b"], 0), (["x", "y", "b"], 2)]:
            with self.assertRaises(BadOutputs) as caught:
                Wish(["a", "b"], outputs, None)
            self.assertEqual(caught.exception.index, index)

    def test_bad_body(self):
        for thing in objects():
            with self.assertRaises(BadBody) as caught:
                Wish(["a"], ["x"], thing)
            self.assertIs(caught.exception.body, thing)

    def test_strange_name(self):
        body = ("all", [("row", ({"z": 1, "x": 1}, 0)), ("not", ("by", 2, ({"c": 1, "b": 0, "a": 1}, 0)))])
        for inputs, outputs, name in [([], [], "a"), (["a"], [], "c"), (["a", "c"], [], "x"), (["c", "a"], ["x"], "z")]:
            with self.assertRaises(StrangeName) as caught:
                Wish(inputs, outputs, body)
            self.assertEqual(caught.exception.name, name)
        self.assertEqual(Wish(["a", "z"], ["x", "c"], body).body()[0], "all")


class EqualWishes(unittest.TestCase):
    def test_equal(self):
        self.assertEqual(wish(), wish())
        self.assertEqual(Wish(("a", "b"), ("x", "y"), swapped(wish_body())), wish())
        self.assertEqual(Wish(["a"], [], ("row", ({"a": 1, "zz": 0}, 0))), Wish(["a"], [], ("row", ({"a": 1}, 0))))
        self.assertIs(wish() == wish(), True)
        self.assertIs(wish() != wish(), False)

    def test_unequal(self):
        for other in [
            Wish(["b", "a"], ["x", "y"], wish_body()), Wish(["a", "b"], ["y", "x"], wish_body()),
            Wish(["a", "b"], ["x", "y"], ("not", wish_body())), Wish(["a", "b", "c"], ["x", "y"], wish_body()),
            Wish(["a", "b"], ["x", "y"], (wish_body()[0], wish_body()[1][::-1])),
            System(["a", "b", "x", "y"], [wish_body()]), program_p(), None, 0, "a", wish_body(), (["a", "b"], ["x", "y"]),
        ]:
            self.assertIs(wish() == other, False, other)
            self.assertIs(wish() != other, True, other)


class Does(unittest.TestCase):
    def test_the_example(self):
        self.assertIs(wish().does({"a": 1, "b": 0}, {"x": -3, "y": 2}), True)
        self.assertIs(wish().does({"a": 1, "b": 0}, {"x": 2, "y": -1}), False)
        self.assertIs(wish().does(found={"y": 2, "x": -3}, given={"b": 0, "a": 1}), True)
        self.assertEqual(names_in(wish().body()), ["a", "b", "x", "y"])

    def test_no_names(self):
        self.assertIs(Wish([], [], ALWAYS).does({}, {}), True)
        self.assertIs(Wish([], [], ("any", [])).does({}, {}), False)

    def test_names_that_the_body_has_not_are_wanted(self):
        made = Wish(["a"], ["b"], ALWAYS)
        self.assertIs(made.does({"a": 1}, {"b": 10 ** 30}), True)
        self.assertRaises(BadGiven, made.does, {}, {"b": 1})
        self.assertRaises(BadFound, made.does, {"a": 1}, {})

    def test_bad_given_ahead(self):
        made = Wish(["a"], ["x"], ALWAYS)
        for given in NO_NUMBERS_OF_A + [{"x": 1}, {"a": 1, "x": 1}]:
            for found in [{"x": 1}, None, {}]:
                with self.assertRaises(BadGiven) as caught:
                    made.does(given, found)
                self.assertIs(caught.exception.given, given)

    def test_bad_found(self):
        made = Wish(["b"], ["a"], ALWAYS)
        for found in NO_NUMBERS_OF_A + [{"a": 1, "b": 1}]:
            with self.assertRaises(BadFound) as caught:
                made.does({"b": 1}, found)
            self.assertIs(caught.exception.found, found)

    def test_at_random(self):
        for chance in chances(100):
            body = any_body(chance, ["a", "b", "x", "y"], 3)
            numbers = {name: chance.randint(-5, 5) for name in ["a", "b", "x", "y"]}
            given, found = {name: numbers[name] for name in "ba"}, {name: numbers[name] for name in "xy"}
            self.assertIs(Wish(["a", "b"], ["x", "y"], body).does(given, found), holds(body, numbers))


class MakingSystems(unittest.TestCase):
    def test_what_is_told(self):
        made = System(("z", "a"), (["same", [{"z": 1, "a": 0, "b": 0}, 0]], ["any", ()]))
        self.assertEqual(shape(made.names()), shape(["z", "a"]))
        self.assertEqual(shape(made.bodies()), shape([("same", ({"z": 1}, 0)), ("any", [])]))
        self.assertEqual(System(bodies=[], names=[]).names(), [])
        self.assertEqual(System([], ()).bodies(), [])

    def test_bad_names(self):
        for names, index in BAD_NAMES:
            with self.assertRaises(BadNames) as caught:
                System(names, None)
            self.assertEqual(shape(caught.exception.index), shape(index), names)

    def test_bad_bodies(self):
        for bodies, index in [(thing, 0) for thing in NO_LISTS] + [(X, 0), ([Y, X, X[1], None], 2), (([X, 0], Y), 0)]:
            with self.assertRaises(BadBodies) as caught:
                System([], bodies)
            self.assertEqual(shape(caught.exception.index), shape(index), bodies)
        for thing in objects():
            with self.assertRaises(BadBodies) as caught:
                System(["x"], [X, thing, thing])
            self.assertEqual(caught.exception.index, 1)

    def test_strange_name_of_all_bodies(self):
        bodies = [("row", ({"z": 1}, 0)), ("not", ("row", ({"y": 1, "a": 0, "b": 1}, 0)))]
        for names, name in [([], "b"), (["b"], "y"), (["y", "b"], "z"), (["z", "y"], "b")]:
            with self.assertRaises(StrangeName) as caught:
                System(names, bodies)
            self.assertEqual(caught.exception.name, name)

    def test_equality(self):
        self.assertEqual(System(["x", "y"], [X, Y]), System(("x", "y"), (swapped(X), Y)))
        self.assertIs(System(["x"], []) == System(["x"], ()), True)
        for other in [
            System(["y", "x"], [X, Y]), System(["x", "y"], [Y, X]), System(["x", "y"], [("all", [X, Y])]), wish(), None,
            Wish(["x", "y"], [], ("all", [X, Y])), (["x", "y"], [X, Y]),
        ]:
            self.assertIs(System(["x", "y"], [X, Y]) == other, False)
            self.assertIs(System(["x", "y"], [X, Y]) != other, True)


class Points(unittest.TestCase):
    def test_points(self):
        made = System(["x", "y"], [("row", ({"x": 1, "y": -1}, 0)), ("not", ("by", 2, ({"x": 1}, 0)))])
        for x in range(-4, 5):
            for y in range(-4, 5):
                self.assertIs(is_point(made, {"y": y, "x": x}), x >= y and x % 2 == 1)
        self.assertIs(is_point(thing={"x": 10 ** 30 + 1, "y": -1}, system=made), True)

    def test_no_bodies_and_no_names(self):
        self.assertIs(is_point(System([], []), {}), True)
        self.assertIs(is_point(System([], [("any", [])]), {}), False)
        self.assertIs(is_point(System(["a"], []), {"a": 0}), True)

    def test_any_object(self):
        for thing in objects() + NO_NUMBERS_OF_A + [X, wish_body(), deep({"a": 0}, 49, lambda one: [one])]:
            self.assertIs(is_point(System(["a"], []), thing), False, thing)
        for thing in [{"x": 1}, {"y": 1}, {"x": 1, "y": 1, "z": 1}, {"x": True, "y": 1}, {"x": 1, "y": None}]:
            self.assertIs(is_point(System(["x", "y"], []), thing), False, thing)

    def test_bad_system(self):
        for thing in objects():
            if not isinstance(thing, System):
                with self.assertRaises(BadSystem) as caught:
                    is_point(thing, {})
                self.assertIs(caught.exception.system, thing)


class Changes(unittest.TestCase):
    def test_what_is_passed_may_change_later(self):
        inputs, outputs, body = ["a", "b"], ["x", "y"], swapped(swapped(wish_body()))
        made = Wish(inputs, outputs, body)
        for thing in [inputs, outputs, body]:
            spoil(thing)
        self.assertEqual(made, wish())
        names, bodies = ["x", "y"], [("any", [("row", ({"x": 1}, 0))]), ("row", ({"y": 1}, 0))]
        system = System(names, bodies)
        spoil(names)
        spoil(bodies)
        self.assertEqual(system, System(["x", "y"], [("any", [("row", ({"x": 1}, 0))]), ("row", ({"y": 1}, 0))]))

    def test_what_is_told_may_change_later(self):
        made, system = wish(), System(["x", "y"], [X, Y])
        for tell in [made.inputs, made.outputs, made.body, system.names, system.bodies]:
            before = shape(tell())
            told = tell()
            self.assertFalse({id(held) for held in holders(told)} & {id(held) for held in holders(tell())})
            spoil(told)
            self.assertEqual(shape(tell()), before)
        self.assertEqual((made, system), (wish(), System(["x", "y"], [X, Y])))

    def test_no_argument_is_changed(self):
        body = swapped(wish_body())
        before = shape(body)
        inputs, outputs, given, found = ["b", "a"], ["y", "x"], {"b": 0, "a": 1}, {"y": 2, "x": -3}
        Wish(inputs, outputs, body).does(given, found)
        System(inputs + outputs, [body])
        names_in(body)
        self.assertEqual(shape(body), before)
        self.assertEqual((inputs, outputs), (["b", "a"], ["y", "x"]))
        self.assertEqual((list(given.items()), list(found.items())), ([("b", 0), ("a", 1)], [("y", 2), ("x", -3)]))
