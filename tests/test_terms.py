"""[3.1]: terms and numbers."""

import unittest

from outofwishes.errors import BadNumber, BadNumbers, BadTerm, BadTerms
from outofwishes.kinds import is_name
from outofwishes.terms import added, is_term, term_at, tidy, times
from tests.samples import NAMES, NO_NAMES, chances, any_term, holders, objects, shape, spoil, swapped


class Names(unittest.TestCase):
    def test_names(self):
        for name in NAMES:
            self.assertIs(is_name(name), True, name)
            self.assertIs(is_term(({name: 1}, 0)), True, name)

    def test_no_names(self):
        for name in NO_NAMES + [1, None, True, (), ("a",), len]:
            self.assertIs(is_name(name), False, name)
            self.assertIs(is_term(({name: 1}, 0)), False, name)
            self.assertIs(is_term(({"a": 1, name: 0}, 0)), False, name)


class IsTerm(unittest.TestCase):
    def test_terms(self):
        for thing in [({}, 0), [{}, 0], ({"a": 0}, -5), [{"b": 10 ** 40, "a": -1}, 10 ** 40]]:
            self.assertIs(is_term(thing), True, thing)
        self.assertIs(is_term(thing=({}, 0)), True)

    def test_what_is_none(self):
        for thing in objects():
            self.assertIs(is_term(thing), False, thing)

    def test_parts_that_are_missing_or_wrong(self):
        for thing in [
            ({},), ({}, 0, 0), (0, {}), ({}, True), ({}, "0"), ({}, None), ([], 0), ((), 0), ("", 0), (None, 0),
            ({"a": True}, 0), ({"a": "1"}, 0), ({"a": [1]}, 0), ({"a": ()}, 0), "ab", {"a": 1}, {0: {}, 1: 0},
            ([("a", 1)], 0), (({}, 0), 0), ({"a": 1}, ({}, 0)), {"coefficients": {}, "constant": 0},
        ]:
            self.assertIs(is_term(thing), False, thing)


class Tidy(unittest.TestCase):
    def test_told_form(self):
        told = tidy([{"y": 2, "b": 0, "a10": -1, "a9": 3, "z": 0}, 4])
        self.assertEqual(shape(told), shape(({"a10": -1, "a9": 3, "y": 2}, 4)))

    def test_new_and_nothing_changed(self):
        coefficients = {"b": 1, "a": 0}
        term = (coefficients, 2)
        told = tidy(term)
        told[0]["c"] = 1
        self.assertEqual(list(coefficients.items()), [("b", 1), ("a", 0)])
        self.assertEqual(tidy(term=term), ({"b": 1}, 2))

    def test_bad_term_is_the_very_object(self):
        for thing in objects():
            with self.assertRaises(BadTerm) as caught:
                tidy(thing)
            self.assertIs(caught.exception.term, thing)


class Added(unittest.TestCase):
    def test_of_none(self):
        self.assertEqual(shape(added([])), shape(({}, 0)))
        self.assertEqual(shape(added(())), shape(({}, 0)))

    def test_of_some(self):
        terms = [({"x": 1, "y": 2}, 3), [{"y": -2, "a": 4, "z": 0}, -5]]
        self.assertEqual(shape(added(terms)), shape(({"a": 4, "x": 1}, -2)))
        self.assertEqual(shape(added(terms=tuple(terms))), shape(({"a": 4, "x": 1}, -2)))
        self.assertEqual(terms, [({"x": 1, "y": 2}, 3), [{"y": -2, "a": 4, "z": 0}, -5]])

    def test_of_one_is_new(self):
        term = ({"x": 1}, 0)
        told = added([term])
        self.assertIsNot(told[0], term[0])

    def test_first_thing_that_is_none(self):
        good = ({}, 0)
        for terms, index in [
            ([good, None, None], 1), ([good, good, ({}, True)], 2), ([0], 0), (good, 0), ({}, 0), ("", 0), ("ab", 0),
            (None, 0), (7, 0), ({0: good}, 0), ([good, "a"], 1), ((good, [good]), 1),
        ]:
            with self.assertRaises(BadTerms) as caught:
                added(terms)
            self.assertEqual(shape(caught.exception.index), shape(index), terms)


class Times(unittest.TestCase):
    def test_times(self):
        term = ({"y": 2, "x": -3, "z": 0}, 5)
        self.assertEqual(shape(times(term, 2)), shape(({"x": -6, "y": 4}, 10)))
        self.assertEqual(shape(times(term, -1)), shape(({"x": 3, "y": -2}, -5)))
        self.assertEqual(shape(times(term, 0)), shape(({}, 0)))
        self.assertEqual(times(number=10 ** 20, term=[{"x": 1}, 1]), ({"x": 10 ** 20}, 10 ** 20))
        self.assertEqual(term, ({"y": 2, "x": -3, "z": 0}, 5))

    def test_errors_the_term_first(self):
        for number in [True, False, None, "1", [1], {}, ({}, 0), len]:
            with self.assertRaises(BadNumber) as caught:
                times(({}, 0), number)
            self.assertIs(caught.exception.number, number)
            term = ({}, number, 0)
            with self.assertRaises(BadTerm) as caught:
                times(term, number)
            self.assertIs(caught.exception.term, term)


class TermAt(unittest.TestCase):
    def test_the_example(self):
        self.assertEqual(term_at(({"x": 2, "y": 0}, -7), {"x": 3}), -1)

    def test_values(self):
        self.assertEqual(term_at(({}, 5), {}), 5)
        self.assertEqual(term_at(({}, 5), {"a": 1, "further": 2}), 5)
        self.assertEqual(term_at(({"a": 10 ** 6, "b": -1}, 1), {"b": 10 ** 15, "a": -10 ** 15, "c": 0}), 1 - 1000001 * 10 ** 15)
        self.assertEqual(term_at(numbers={"a": 2}, term=[{"a": 3}, 4]), 10)

    def test_names_that_are_wanted(self):
        for term, numbers in [
            (({"a": 1}, 0), {}), (({"a": 1, "b": -1}, 0), {"a": 1}), (({"a": 1}, 0), {"b": 1}),
        ]:
            with self.assertRaises(BadNumbers) as caught:
                term_at(term, numbers)
            self.assertIs(caught.exception.numbers, numbers)

    def test_what_is_no_numbers(self):
        for numbers in [
            None, 1, [], (), "", [("a", 1)], {"a": True}, {"a": "1"}, {"a": None}, {"a": 1, "B": 1}, {"a": 1, "of": 1},
            {"a": 1, 1: 1}, {"a": 1, "b": False}, {"a": 1, (): 2}, len,
        ]:
            with self.assertRaises(BadNumbers) as caught:
                term_at(({}, 0), numbers)
            self.assertIs(caught.exception.numbers, numbers)

    def test_the_term_first(self):
        term = ({}, None)
        with self.assertRaises(BadTerm) as caught:
            term_at(term, None)
        self.assertIs(caught.exception.term, term)


class AtRandom(unittest.TestCase):
    def test_sums_and_products_come_to_sums_and_products(self):
        names = ["a", "b", "c"]
        for chance in chances(200):
            one, two = any_term(chance, names), any_term(chance, names)
            numbers = {name: chance.randint(-10 ** 15, 10 ** 15) for name in names}
            number = chance.randint(-5, 5)
            self.assertEqual(term_at(added([one, two]), numbers), term_at(one, numbers) + term_at(two, numbers))
            self.assertEqual(term_at(times(one, number), numbers), number * term_at(one, numbers))
            self.assertEqual(shape(added([one, two])), shape(added((two, swapped(one)))))
            self.assertNotIn(0, added([one, two])[0].values())
            self.assertEqual(list(times(one, 3)[0]), sorted(times(one, 3)[0]))

    def test_told_terms_are_the_callers(self):
        term = ({"b": 1, "a": 2}, 3)
        for tell in [lambda: tidy(term), lambda: added([term]), lambda: times(term, 1)]:
            told = tell()
            spoil(told)
            self.assertEqual(tell(), ({"a": 2, "b": 1}, 3))
            self.assertFalse({id(held) for held in holders(told)} & {id(held) for held in holders(tell())})
