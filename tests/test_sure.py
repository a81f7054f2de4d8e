"""[19.1] to [19.4]: cases and wishes that are sure whatever one name is, or broken."""

import unittest

from outofwishes.bodies import names_in
from outofwishes.errors import BadCase, BadHigh, BadLow, BadName, BadNumbers, BadWish, NoInput, NotOneCase
from outofwishes.flats import cases, denied
from outofwishes.sure import breaking, broken_by, sure, sure_wish
from outofwishes.texts import read_wish
from outofwishes.wishes import Wish
from tests.checks import is_so_by_hand, refused, told_again, told_body_by_hand, value_by_hand
from tests.samples import NO_NAMES, any_body, any_term, chances, objects, program_p, shape, spoil, swapped, wish
from tests.test_nameout import NO_CASES

ZERO = ({}, 0)
A = ({"a": 1}, 0)
EXAMPLE = [("row", ({"x": 1, "b": -2}, 0)), ("row", ({"x": -1, "b": 1}, 9))]


def broken_by_hand(case, name, low, high, numbers):
    """The least integer that breaks a case, by trying all."""
    for number in range(value_by_hand(low, numbers), value_by_hand(high, numbers) + 1):
        if not all(is_so_by_hand(test, {**numbers, name: number}) for test in case):
            return number
    return None


def any_case(chance, most=4):
    """A case at random, a name, and two ends without it."""
    names = chance.sample(["a", "b", "c", "x", "zz"], chance.randint(1, 5))
    name = chance.choice(names)
    others = [other for other in names if other != name]
    case = []
    for _ in range(chance.randint(0, most)):
        term = any_term(chance, names, chance.choice([3, 10]))
        case.append(chance.choice([("row", term), ("row", term), ("same", term), ("by", chance.randint(1, 12), term)]))
    low = any_term(chance, others)
    high = chance.choice([any_term(chance, others), (low[0], low[1] + chance.randint(-1, 3))])
    return case, name, others, low, high


class BrokenBy(unittest.TestCase):
    def look(self, case, low, high, expected, name="b", **numbers):
        self.assertEqual(shape(broken_by(case, name, low, high, numbers)), shape(expected), (case, low, high, numbers))

    def test_the_example(self):
        for x, expected in [(5, 3), (10, 0), (6, None)]:
            self.look(EXAMPLE, ZERO, A, expected, a=3, x=x)
        for high in [10 ** 15, 1]:
            self.look([("by", 2, ({"b": 1, "x": 1}, 0))], ZERO, ({"h": 1}, 0), 1, x=0, h=high)
        self.look([("by", 2, ({"b": 1, "x": 1}, 0))], ZERO, ({"h": 1}, 0), None, x=0, h=0)

    def test_each_kind_between_ends_far_apart(self):
        low, high = ({}, -10 ** 15), ({"h": 1}, 0)
        for test, expected in [
            (("row", ({"b": 3}, 7)), -10 ** 15), (("row", ({"b": -3}, 7)), 3), (("row", ({"b": -3}, 6)), 3), (("row", ({"b": -3}, -7)), -2),
            (("row", ({"b": 1}, 10 ** 15)), None), (("row", ({"b": 1}, 10 ** 15 - 1)), -10 ** 15), (("row", ({"b": -1}, 10 ** 15)), None),
            (("row", ({"b": -1}, 10 ** 15 - 1)), 10 ** 15), (("row", ({"a": 1}, 0)), None), (("row", ({"a": 1}, -1)), -10 ** 15),
            (("same", ({"b": 1}, 10 ** 15)), 1 - 10 ** 15), (("same", ({"b": 1}, 0)), -10 ** 15), (("same", ({"a": 5}, 0)), None), (("same", ({"a": 5}, 1)), -10 ** 15),
            (("by", 7, ({"b": 7}, 14)), None), (("by", 7, ({"b": 7}, 13)), -10 ** 15), (("by", 5, ({"b": 2}, 0)), 1 - 10 ** 15), (("by", 5, ({"b": 2}, 1)), -10 ** 15),
            (("by", 1, ({"b": 1}, 0)), None), (("by", 6, ({"b": 12, "a": 1}, 0)), None), (("by", 4, ({"b": 6}, 0)), 1 - 10 ** 15),
        ]:
            self.look([test], low, high, expected, a=0, h=10 ** 15)
        self.look([("row", ({"b": -1}, 5)), ("row", ({"b": -2}, 7)), ("by", 3, ({"b": 3}, 0))], low, high, 4, h=10 ** 15)

    def test_no_integer_between(self):
        for low, high in [(1, 0), (10 ** 15, -10 ** 15), (0, -1)]:
            self.look([("row", ({}, -1)), ("same", ({"b": 1}, 5))], ({}, low), ({}, high), None)
        self.look([("row", ({}, -1))], ZERO, ZERO, 0)
        self.look([], ({}, -5), ({}, 5), None)

    def test_a_number_for_the_name_goes_for_nothing(self):
        self.look(EXAMPLE, ZERO, A, 3, a=3, x=5, b=10 ** 15, c=1)
        self.look(EXAMPLE, ({"b": 0}, 0), ({"b": 0, "a": 1}, 0), 3, a=3, x=5)
        self.look([("row", ({"b": 0}, 0))], ZERO, ({}, 5), None)

    def test_at_random(self):
        found = {True: 0, False: 0}
        for chance in chances(300, 51):
            case, name, others, low, high = any_case(chance)
            for _ in range(6):
                numbers = {other: chance.randint(-9, 9) for other in others}
                told = broken_by(case=case, name=name, low=low, high=high, numbers=numbers)
                self.assertEqual(told, broken_by_hand(case, name, low, high, numbers))
                found[told is None] += 1
        self.assertGreater(min(found.values()), 300)

    def test_errors(self):
        for thing, index in NO_CASES:
            with self.assertRaises(BadCase) as caught:
                broken_by(thing, None, None, None, None)
            self.assertEqual(caught.exception.index, index)
        for thing in NO_NAMES + objects():
            if type(thing) is not str or thing in NO_NAMES:
                refused(self, BadName, "name", lambda: broken_by(EXAMPLE, thing, None, None, None), thing)
        for thing in objects() + [({"b": 1}, 0), ({"a": 1, "b": -1}, 0)]:
            refused(self, BadLow, "low", lambda: broken_by(EXAMPLE, "b", thing, None, None), thing)
            refused(self, BadHigh, "high", lambda: broken_by(EXAMPLE, "b", ZERO, thing, None), thing)
        for thing in [None, [], {}, {"x": 1}, {"a": 1}, {"a": 1, "x": True}, {"a": 1, "x": 1, "b": "1"}, {"a": 1, "x": 1, 2: 2}, {"a": 1, "b": 1}, len]:
            refused(self, BadNumbers, "numbers", lambda: broken_by(EXAMPLE, "b", ZERO, A, thing), thing)
        for low, high in [(({"c": 1}, 0), A), (A, ({"c": 1}, 0))]:
            with self.assertRaises(BadNumbers):
                broken_by([], "b", low, high, {"a": 1})


class Sure(unittest.TestCase):
    def look(self, case, low, high, body):
        told = told_again(self, lambda: sure(case, "b", low, high))
        self.assertEqual(shape(told), shape(body))

    def test_the_example(self):
        rows = [("row", ({"a": -2, "x": 1}, 0)), ("row", ({"x": -1}, 9))]
        self.look(EXAMPLE, ZERO, A, ("any", [("row", ({"a": -1}, -1)), ("all", rows)]))

    def test_each_kind(self):
        low, high = ({"a": 2}, -1), ({"c": 1, "a": 0}, 4)
        empty = ("row", ({"a": 2, "c": -1}, -6))
        known = ("row", ({"a": 2, "c": -1}, -5))
        for test, body in [
            (("row", ({"b": 3, "x": 1}, 5)), ("row", ({"a": 6, "x": 1}, 2))),
            (("row", ({"b": -3, "x": 1}, 5)), ("row", ({"c": -3, "x": 1}, -7))),
            (("row", ({"x": 1, "b": 0, "q": 0}, 5)), ("row", ({"x": 1}, 5))),
            (("same", ({"x": 4}, 2)), ("same", ({"x": 4}, 2))),
            (("by", 4, ({"x": 4, "b": 0}, 9)), ("by", 4, ({"x": 4}, 9))),
            (("same", ({"b": 2, "x": -1}, 3)), ("all", [("row", ({"a": 4, "x": -1}, 1)), ("row", ({"c": -2, "x": 1}, -11))])),
            (("same", ({"b": -2, "x": -1}, 3)), ("all", [("row", ({"c": -2, "x": -1}, -5)), ("row", ({"a": 4, "x": 1}, -5))])),
            (("by", 6, ({"b": 4, "a": -8}, 3)), ("all", [("by", 6, ({}, -1)), ("any", [known, ("by", 6, ({}, 4))])])),
            (("by", 6, ({"b": -12, "x": 7}, 3)), ("all", [("by", 6, ({"a": -24, "x": 7}, 15)), ("any", [known, ("by", 6, ({}, -12))])])),
            (("by", 1, ({"b": 1}, 0)), ("all", [("by", 1, ({"a": 2}, -1)), ("any", [known, ("by", 1, ({}, 1))])])),
        ]:
            self.look([test], low, high, ("any", [empty, ("all", [body])]))
            self.look([test, test], low, high, ("any", [empty, ("all", [body, body])]))
        self.look([], low, high, ("any", [empty, ("all", [])]))

    def test_just_one(self):
        for chance in chances(300, 52):
            case, name, others, low, high = any_case(chance)
            told = told_again(self, lambda: sure(case=case, name=name, low=low, high=high))
            self.assertEqual(shape(told), shape(told_body_by_hand(told)))
            self.assertNotIn(name, names_in(told))
            for _ in range(6):
                numbers = {other: chance.choice([chance.randint(-4, 4), chance.randint(-9, 9), chance.randint(-10 ** 9, 10 ** 9)]) for other in others}
                self.assertIs(is_so_by_hand(told, numbers), broken_by(case, name, low, high, numbers) is None)

    def test_errors(self):
        for thing, index in NO_CASES:
            with self.assertRaises(BadCase) as caught:
                sure(thing, None, None, None)
            self.assertEqual(caught.exception.index, index)
        for thing in NO_NAMES + objects():
            if type(thing) is not str or thing in NO_NAMES:
                refused(self, BadName, "name", lambda: sure(EXAMPLE, thing, None, None), thing)
        for thing in objects() + [({"b": 1}, 0)]:
            refused(self, BadLow, "low", lambda: sure(EXAMPLE, "b", thing, None), thing)
            refused(self, BadHigh, "high", lambda: sure(EXAMPLE, "b", ZERO, thing), thing)

    def test_passed(self):
        expected = shape(sure(EXAMPLE, "b", ZERO, A))
        zeros = [(*test[:-1], ({**test[-1][0], "q": 0}, test[-1][1])) for test in EXAMPLE]
        for case in [tuple(EXAMPLE), swapped(EXAMPLE), zeros]:
            self.assertEqual(shape(sure(case, "b", [{"b": 0}, 0], [{"a": 1, "q": 0}, 0])), expected)
            self.assertEqual(broken_by(case, "b", [{}, 0], [{"a": 1}, 0], {"x": 5, "a": 3}), 3)
        case, low, high = swapped(swapped(EXAMPLE)), ({}, 0), ({"a": 1}, 0)
        spoil(sure(case, "b", low, high))
        self.assertEqual((case, low, high), (EXAMPLE, ZERO, A))


class Wishes(unittest.TestCase):
    def test_sure_wish(self):
        asked = Wish(["b", "c", "a"], ["x"], ("all", EXAMPLE))
        told = sure_wish(asked, "b", ZERO, A)
        self.assertEqual((told.inputs(), told.outputs()), (["c", "a"], ["x"]))
        self.assertEqual(shape(told.body()), shape(sure(EXAMPLE, "b", ZERO, A)))
        self.assertEqual(told, sure_wish(high=[{"a": 1}, 0], low=({"b": 0, "q": 0}, 0), name="b", wish=asked))

    def test_the_one_case_is_of_its_body(self):
        asked = read_wish("of a, b give x: not (2 * x > a + b or 4 * x + 6 * b < 3)")
        (case,) = cases(asked.body())
        told = sure_wish(asked, "a", ({"b": 1}, 0), ({}, 7))
        self.assertEqual(shape(told.body()), shape(sure(case, "a", ({"b": 1}, 0), ({}, 7))))
        self.assertEqual((told.inputs(), told.outputs()), (["b"], ["x"]))
        every = sure_wish(Wish(["a"], [], ("all", [])), "a", ZERO, ZERO)
        self.assertEqual(shape(every.body()), shape(("any", [("row", ({}, -1)), ("all", [])])))

    def test_not_one_case(self):
        for body, many in [(("any", []), 0), (("same", ({"a": 0}, 1)), 0), (("not", ("same", A)), 2), (("by", 3, A), 1), (("not", ("by", 4, A)), 3), (("any", [("row", A), ("row", ({"a": 2}, 1))]), 1)]:
            asked = Wish(["a"], ["x"], body)
            if many == 1:
                self.assertIsInstance(sure_wish(asked, "a", ZERO, ZERO), Wish)
                continue
            with self.assertRaises(NotOneCase) as caught:
                sure_wish(asked, "a", ZERO, ZERO)
            self.assertEqual(shape(caught.exception.many), shape(many))
            self.assertIsInstance(breaking(asked, "a", ZERO, ZERO), Wish)

    def test_breaking(self):
        body = ("any", [("row", ({"x": 1, "b": -1}, 0)), ("not", ("same", ({"a": 1, "y": 2}, 0)))])
        asked = Wish(["c", "b", "a"], ["y", "x"], body)
        told = breaking(asked, "b", ({"a": 2}, 1), ({"c": -1}, 3))
        self.assertEqual((told.inputs(), told.outputs()), (["c", "a", "y", "x"], ["b"]))
        rows = [("row", ({"b": 1, "a": -2}, -1)), ("row", ({"c": -1, "b": -1}, 3))]
        self.assertEqual(shape(told.body()), shape(told_body_by_hand(("all", [*rows, denied(body)]))))
        self.assertEqual(told, breaking(low=[{"a": 2, "q": 0}, 1], high=({"c": -1}, 3), name="b", wish=asked))

    def test_just_one_at_drawn_numbers(self):
        found = {True: 0, False: 0}
        for chance in chances(200, 53):
            case, name, others, low, high = any_case(chance, 3)
            outputs = others[:chance.randint(0, 2)]
            inputs = [other for other in others if other not in outputs]
            low = ({other: part for other, part in low[0].items() if other in inputs}, low[1])
            high = chance.choice([({other: part for other, part in high[0].items() if other in inputs}, high[1]), (low[0], low[1] + 4)])
            asked = Wish([name, *inputs], outputs, ("all", case))
            if len(cases(asked.body())) != 1:
                continue
            one, two = sure_wish(asked, name, low, high), breaking(asked, name, low, high)
            for _ in range(8):
                numbers = {other: chance.randint(-6, 6) for other in others}
                given, seen = {other: numbers[other] for other in inputs}, {other: numbers[other] for other in outputs}
                ends = range(value_by_hand(low, numbers), value_by_hand(high, numbers) + 1)
                broken = [number for number in ends if two.does(numbers, {name: number})]
                self.assertIs(one.does(given, seen), len(broken) == 0)
                self.assertEqual(broken, [number for number in ends if not asked.does({**given, name: number}, seen)])
                found[len(broken) == 0] += 1
                for number in [ends.start - 1, ends.stop]:
                    self.assertFalse(two.does(numbers, {name: number}) and number not in ends)
        self.assertGreater(min(found.values()), 100)

    def test_of_several_cases_none_need_be_sure(self):
        asked = read_wish("of b give x: (x = 0 and b = 0) or (x = 0 and b = 1)")
        told = breaking(asked, "b", ZERO, ({}, 1))
        self.assertFalse(any(told.does({"x": 0}, {"b": number}) for number in range(-3, 4)))
        self.assertTrue(told.does({"x": 1}, {"b": 0}))

    def test_errors(self):
        for ask in [sure_wish, breaking]:
            for thing in objects() + [program_p()]:
                if not isinstance(thing, Wish):
                    refused(self, BadWish, "wish", lambda: ask(thing, None, None, None), thing)
            for thing in objects() + NO_NAMES + ["x", "y", "c", "aa"]:
                if thing != "a":
                    refused(self, NoInput, "name", lambda: ask(wish(), thing, None, None), thing)
            for thing in objects() + [({"a": 1}, 0), ({"x": 1}, 0), ({"b": 1, "c": -1}, 0)]:
                refused(self, BadLow, "low", lambda: ask(wish(), "a", thing, None), thing)
                refused(self, BadHigh, "high", lambda: ask(wish(), "a", ({"b": 2, "a": 0}, 0), thing), thing)
        with self.assertRaises(NotOneCase) as caught:
            sure_wish(wish(), "a", ZERO, ({"b": 1}, 0))
        self.assertEqual(caught.exception.many, 2)

    def test_any_wish_can_be_broken(self):
        for chance in chances(40, 54):
            asked = Wish(["a", "b"], ["x"], any_body(chance, ["a", "b", "x"], 3))
            kept = shape(asked.body())
            told = breaking(asked, "b", A, ({"a": 1}, 2))
            for _ in range(10):
                a, x = chance.randint(-5, 5), chance.randint(-5, 5)
                for number in range(a - 1, a + 5):
                    right = a <= number <= a + 2 and not asked.does({"a": a, "b": number}, {"x": x})
                    self.assertIs(told.does({"a": a, "x": x}, {"b": number}), right)
            spoil(told.body())
            spoil(told.inputs())
            self.assertEqual(shape(asked.body()), kept)
            self.assertEqual(breaking(asked, "b", A, ({"a": 1}, 2)), told)
