"""[18.1] to [18.5]: what is cheaper, claims that nothing is, costs that fall, and the cheapest programs."""

import unittest

from outofwishes.cheapest import cheaper_at, cheapest, cost_claims, falls, least_claims
from outofwishes.errors import BadProgram, BadTerm, BadWish, StrangeName, UnlikeNames
from outofwishes.flats import cases
from outofwishes.judged import is_right, papers_for, questions
from outofwishes.leasts import least_of
from outofwishes.maker import made, system_at
from outofwishes.programs import Program
from outofwishes.programtexts import read_program
from outofwishes.texts import read_wish
from outofwishes.ways import ways
from outofwishes.wishes import System, Wish, is_point
from tests.checks import (
    are_numbers, figures, paper_flaw, put_by_hand, refused, run_by_hand, told_again, told_by_hand, told_system, value_by_hand,
)
from tests.samples import any_statement, any_term, chances, objects, program_p, program_q, shape, spoil, swapped, wish
from tests.wishmakers import any_wish, strip_wish

X = ({"x": 1}, 0)
AT_LEAST_HALF = ("all", [("row", ({"x": 2, "a": -1}, 0)), ("by", 3, ({"x": 1}, 0))])


def half():
    """The wish of [18.5]."""
    return Wish(["a"], ["x"], AT_LEAST_HALF)


def cheaper_by_hand(program, asked, cost):
    """The told systems of cost_claims."""
    found = []
    for system, _, end in ways(program):
        if end is None:
            continue
        term = cost
        for at, name in enumerate(asked.outputs()):
            term = put_by_hand(term, name, ({f"!{at}": 1}, 0))
        for at, part in enumerate(end):
            term = put_by_hand(term, f"!{at}", part)
        less = put_by_hand(({**term[0], "!": 1}, term[1] - 1), "!", ({name: -part for name, part in cost[0].items()}, -cost[1]))
        found.append(told_by_hand(system.names() + asked.outputs(), system.bodies() + [asked.body(), ("row", less)]))
    return found


def rays_by_hand(asked, case, cost):
    """The told system of the rays of a case."""
    outputs = asked.outputs()

    def part(term, sign):
        return {name: sign * number for name, number in term[0].items() if name in outputs}

    bodies = [(*test[:-1], (part(test[-1], 1), 0)) for test in case]
    return told_by_hand(outputs, bodies + [("row", (part(cost, -1), -1))])


class LookedThrough(unittest.TestCase):
    def look_at_program(self, program, asked, cost):
        """Just one of cheaper_at and cost_claims, looked through; told is whether nothing is cheaper."""
        pair = told_again(self, lambda: cheaper_at(program, asked, cost))
        claims = cost_claims(program, asked, cost)
        self.assertIsNot(pair is None, claims is None)
        if pair is not None:
            self.assertIs(type(pair), tuple)
            given, found = pair
            self.assertTrue(are_numbers(given, asked.inputs()) and are_numbers(found, asked.outputs()))
            self.assertEqual([list(one) for one in pair], [sorted(one) for one in pair])
            answer = run_by_hand(program, given)[0]
            self.assertTrue(asked.does(given, found))
            self.assertLess(value_by_hand(cost, {**given, **found}), value_by_hand(cost, {**given, **answer}))
            return False
        self.assertIs(type(claims), list)
        self.assertEqual([told_system(system) for system, _ in claims], cheaper_by_hand(program, asked, cost))
        for claim in claims:
            self.assertIs(type(claim), tuple)
            self.assertIsNone(paper_flaw(*claim))
            self.assertLess(figures(claim[1]), 1000)
        return True

    def look_at_costs(self, asked, cost):
        """Just one of falls and least_claims, looked through; told is whether costs never fall."""
        triple = told_again(self, lambda: falls(asked, cost))
        claims = least_claims(asked, cost)
        self.assertIsNot(triple is None, claims is None)
        every = cases(asked.body())
        names = asked.inputs() + asked.outputs()
        rays = [rays_by_hand(asked, case, cost) for case in every]
        if triple is not None:
            self.assertIs(type(triple), tuple)
            given, found, ray = triple
            self.assertEqual([list(one) for one in triple], [sorted(one) for one in triple])
            self.assertTrue(are_numbers(given, asked.inputs()) and are_numbers(found, asked.outputs()))
            own = [System(names, case) for case in every]
            right = [at for at in range(len(every)) if is_point(own[at], {**given, **found}) and is_point(System(*plain(rays[at])), ray)]
            self.assertGreater(len(right), 0)
            last = value_by_hand(cost, {**given, **found})
            for times in [1, 2, 10 ** 6]:
                more = {name: found[name] + times * ray[name] for name in found}
                self.assertTrue(asked.does(given, more))
                self.assertLess(value_by_hand(cost, {**given, **more}), last)
                last = value_by_hand(cost, {**given, **more})
            return False
        self.assertIs(type(claims), list)
        self.assertEqual(len(claims), len(every))
        for (system, paper), case, ray in zip(claims, every, rays):
            self.assertIn(told_system(system), [told_by_hand(names, case), ray])
            self.assertIsNone(paper_flaw(system, paper))
        return True


def plain(told):
    """The names and bodies of which told_system tells the shape."""
    def back(thing):
        if thing[0] == "list":
            return [back(part) for part in thing[1]]
        if thing[0] == "tuple":
            return tuple(back(part) for part in thing[1])
        return {key: back(part) for key, part in thing[1]} if thing[0] == "dict" else thing[1]

    return back(told)


class TheExample(LookedThrough):
    def test_a_third_of_them(self):
        let = ("let", "q", 2, ({"a": -1}, 0), ("first", "j", 3, [("by", 3, ({"q": -1, "j": 1}, 0))], ("give", [({"q": -1, "j": 1}, 0)]), ("none",)))
        best = Program(["a"], ["x"], let)
        self.assertIs(is_right(best, half()), True)
        self.assertIs(self.look_at_program(best, half(), X), True)
        told = cheapest(half(), X)
        self.assertIs(self.look_at_program(told, half(), X), True)
        self.assertEqual(run_by_hand(told, {"a": 1})[0], {"x": 3})

    def test_a_program_that_is_wrong_too(self):
        program = Program(["a"], ["x"], ("give", [({"a": 3}, 0)]))
        self.assertIs(self.look_at_program(program, half(), X), False)
        self.assertIs(is_right(program, half()), False)
        self.assertIs(self.look_at_program(program, half(), ({"x": -1}, 0)), False)
        self.assertIs(self.look_at_program(program, half(), ({"a": -7}, 10)), True)

    def test_falls(self):
        cost = ({"x": -1}, 0)
        self.assertIs(self.look_at_costs(half(), cost), False)
        self.assertIsNone(cheapest(half(), cost))
        rays = rays_by_hand(half(), cases(half().body())[0], cost)
        self.assertEqual(rays, shape((["x"], [("row", ({"x": 2}, 0)), ("by", 3, ({"x": 1}, 0)), ("row", ({"x": 1}, -1))])))
        ((system, _),) = least_claims(half(), X)
        self.assertEqual(told_system(system), rays_by_hand(half(), cases(half().body())[0], X))


class Claims(LookedThrough):
    def test_systems_word_for_word(self):
        asked = Wish(["a"], ["x", "y"], ("any", [("row", ({"x": 1, "y": 2}, 0)), ("by", 2, ({"a": 1}, 0))]))
        program = Program(["a"], ["x", "y"], ("let", "q", 3, ({"a": 1}, 0), ("if", ("row", ({"q": 1}, 0)), ("give", [({"q": 2}, 1), ({"a": 1}, 0)]), ("none",))))
        cost = ({"y": 3, "a": -1, "x": -2}, 4)
        found = cheaper_by_hand(program, asked, cost)
        rows = [("row", ({"a": 1, "q": -3}, 0)), ("row", ({"a": -1, "q": 3}, 2)), ("row", ({"q": 1}, 0))]
        less = ("row", ({"a": 3, "q": -4, "x": 2, "y": -3}, -3))
        self.assertEqual(found, [told_by_hand(["a", "q", "x", "y"], rows + [asked.body(), less])])
        self.assertIs(self.look_at_program(program, asked, cost), False)
        never = Wish(["a"], ["x", "y"], ("any", []))
        self.assertIs(self.look_at_program(program, never, cost), True)

    def test_programs(self):
        third = "of a give x: 3 * x >= a and 3 * x <= a + 5"
        for text, asked, cost, right in [
            ("of a give x by let q = -a over 3; give -q", third, X, True), ("of a give x by let q = -a over 3; give -q + 1", third, X, False),
            ("of a give x by let q = a + 5 over 3; give q", third, ({"x": -1}, 0), True), ("of a give x by let q = a + 5 over 3; give q", third, X, False),
            ("of a give x by let q = -a over 3; give -q", third, ({"a": 5}, 0), True), ("of a give x by none", third, X, True),
            ("of a give x by if a > 0 { none } else { let q = -a over 3; give -q }", third, X, True),
            ("of a give x, y by give a, 0", "of a give x, y: x + y >= a and x >= 0 and y >= 0", ({"x": 1, "y": 1}, 0), True),
            ("of a give x, y by give a, 0", "of a give x, y: x + y >= a and x >= 0 and y >= 0", ({"x": 2, "y": 1}, 0), False),
            ("of a give x, y by let q = a over 5; give 0, q", "of a give x, y: 3 * x + 5 * y = a and x >= 0 and y >= 0", ({"x": 1, "y": 1}, 0), True),
            ("of a give x, y by give 5, 0", "of a give x, y: 3 * x + 5 * y = a and x >= 0 and y >= 0", ({"x": 1, "y": 1}, 0), False),
            ("of nothing give x by give 4", "of nothing give x: x >= 3 and 2 divides x", X, True), ("of nothing give x by give 5", "of nothing give x: x >= 3 and 2 divides x", X, False),
            ("of a give nothing by give nothing", "of a give nothing: a >= 0", ({"a": 1}, 0), True), ("of a give nothing by none", "of a give nothing: a >= 0", ({}, 0), True),
        ]:
            self.assertIs(self.look_at_program(read_program(text), read_wish(asked), cost), right, (text, cost))

    def test_at_random(self):
        found = {True: 0, False: 0}
        for chance in chances(120, 91):
            asked = chance.choice([any_wish, strip_wish])(chance)
            cost = any_term(chance, asked.inputs() + asked.outputs(), 9)
            for program in [made(asked), Program(asked.inputs(), asked.outputs(), any_statement(chance, asked.inputs(), asked.outputs(), 2))]:
                if len(ways(program)) <= 5:
                    found[self.look_at_program(program, asked, cost)] += 1
        self.assertGreater(min(found.values()), 40)

    def test_what_means_the_same(self):
        program = read_program("of a give x by give 3 * a")
        others = (Program(("a",), ("x",), swapped(program.statement())), Wish(("a",), ("x",), swapped(AT_LEAST_HALF)), [{"x": 1, "a": 0}, 0])
        self.assertEqual(shape(cheaper_at(program, half(), X)), shape(cheaper_at(wish=others[1], term=others[2], program=others[0])))
        best = cheapest(half(), X)
        self.assertEqual(shape(cheapest(term=others[2], wish=others[1]).statement()), shape(best.statement()))
        tell = lambda claims: [(told_system(system), shape(paper)) for system, paper in claims]
        kept = tell(cost_claims(best, half(), X))
        self.assertEqual(tell(cost_claims(program=best, wish=others[1], term=others[2])), kept)
        claims = cost_claims(best, half(), X)
        spoil(claims)
        self.assertEqual(tell(cost_claims(best, half(), X)), kept)
        self.assertEqual(tell(least_claims(half(), X)), tell(least_claims(wish=others[1], term=others[2])))
        self.assertEqual(shape(falls(half(), ({"x": -1}, 0))), shape(falls(wish=others[1], term=[{"x": -1, "b": 0}, 0])))


class Costs(LookedThrough):
    def test_falls_or_not(self):
        for text, cost, right in [
            ("of a give x: x >= a", X, True), ("of a give x: x >= a", ({"x": -1}, 0), False), ("of a give x: x >= a", ({"a": 1}, 0), True), ("of a give x: x <= a", X, False),
            ("of a give x: x = a or x <= -a", X, False), ("of a give x: x = a or x >= -a", X, True), ("of a give x: x = a or (x <= a and x > a)", X, True),
            ("of a give x: x <= a and 2 divides 2 * x + 1", X, True), ("of a give x: 6 divides x and 4 divides x", X, False), ("of a give x: any()", X, True),
            ("of a give x: all()", ({"a": 1}, 3), True), ("of a give x, y: x + y = a and x >= 0", ({"x": 1, "y": 1}, 0), True), ("of a give x, y: x + y = a and x >= 0", ({"x": 1, "y": 2}, 0), False),
            ("of a give x, y: 2 * x - 3 * y >= a and 3 * x - 4 * y <= a", ({"x": 1, "y": -1}, 0), False), ("of a give x, y: 2 * x - 3 * y >= a and 3 * x - 4 * y <= a", ({"x": -1, "y": 1}, 0), True),
            ("of a, b give x: (x >= a and a >= 7) or (x <= b and b >= 0 and b < 0)", X, True), ("of a give nothing: a >= 0", ({"a": -1}, 0), True),
            ("of nothing give x: not x = 3", X, False),
        ]:
            self.assertIs(self.look_at_costs(read_wish(text), cost), right, (text, cost))

    def test_at_random(self):
        found = {True: 0, False: 0}
        for chance in chances(150, 92):
            asked = chance.choice([any_wish, strip_wish])(chance)
            found[self.look_at_costs(asked, any_term(chance, asked.inputs() + asked.outputs(), 9))] += 1
        self.assertGreater(min(found.values()), 20)


class Cheapest(LookedThrough):
    def look_through(self, asked, cost, chance):
        """A cheapest program, looked through; told is whether there is one."""
        program = cheapest(asked, cost)
        self.assertEqual(program is None, falls(asked, cost) is not None)
        if program is None:
            return False
        self.assertIsInstance(program, Program)
        self.assertIs(self.look_at_program(program, asked, cost), True)
        papers = papers_for(program, asked)
        self.assertIsNotNone(papers)
        for question, paper in zip(questions(program, asked), papers):
            self.assertIsNone(paper_flaw(question, paper))
        for _ in range(5):
            size = chance.choice([5, 50, 10 ** 6])
            given = {name: chance.randint(-size, size) for name in asked.inputs()}
            term = cost
            for name in given:
                term = put_by_hand(term, name, ({}, given[name]))
            end = least_of(system_at(asked, given), term)
            answer = run_by_hand(program, given)[0]
            self.assertEqual(end[0], "none" if answer is None else "least")
            if answer is not None:
                self.assertEqual(end[1], value_by_hand(cost, {**given, **answer}))
        return True

    def test_wishes(self):
        chance = chances(1, 93)[0]
        for text in [
            "of a give x: 2 * x >= a and 3 divides x", "of a give x: 2 * x >= a and 2 * x <= a + 30 and 4 divides x - a", "of a, b give x: x >= a and x >= b and 5 * x <= 2 * a + 700",
            "of a, b give x: (x >= a and x <= a + 3) or (2 * x >= b and 2 * x <= b + 5)", "of a, b give x: (x = a and b >= 0) or (3 * x = b and a >= 0) or (x <= 5 and x >= a + b and 2 divides x)",
            "of a give x: (6 * x >= a and 6 * x <= a + 4) or (5 * x >= a and 5 * x <= a + 3) or (4 * x >= a and 4 * x <= a + 2)", "of nothing give x: 2 * x >= -7 and x <= 9 and 3 divides x + 1",
            "of a give x: (x >= a and x <= a - 1) or (x >= 2 * a and x <= 2 * a + 9)", "of a give x: any()", "of a give x: all()", "of k0, q0 give m0: m0 >= k0 and m0 >= q0 and m0 <= 100",
        ]:
            for cost in [({}, 0), ({"x": 1}, 0), ({"x": -1}, 5), ({"x": 7, "a": -3}, 1), ({"x": -9, "a": 9}, 0), ({"a": 4}, 0)]:
                asked = read_wish(text)
                names = asked.inputs() + asked.outputs()
                cost = ({name: number for name, number in cost[0].items() if name in names}, cost[1])
                if asked.outputs() == ["m0"]:
                    cost = ({"m0": cost[0].get("a", 0) or 2}, cost[1])
                self.look_through(asked, cost, chance)

    def test_at_random(self):
        found = {True: 0, False: 0}
        for chance in chances(120, 94):
            asked = chance.choice([any_wish, strip_wish])(chance, outputs=1)
            found[self.look_through(asked, any_term(chance, asked.inputs() + asked.outputs(), 9), chance)] += 1
        self.assertGreater(min(found.values()), 9)


class Errors(unittest.TestCase):
    def test_of_wishes(self):
        for ask in [falls, least_claims, cheapest]:
            for thing in objects():
                if not isinstance(thing, Wish):
                    refused(self, BadWish, "wish", lambda: ask(thing, None), thing)
                refused(self, BadTerm, "term", lambda: ask(half(), thing), thing)
            for coefficients, name in [({"z": 1, "b": 1}, "b"), ({"x": 1, "q": -1, "b": 0}, "q"), ({"a": 1, "aa": 1}, "aa")]:
                with self.assertRaises(StrangeName) as caught:
                    ask(half(), (coefficients, 0))
                self.assertEqual(caught.exception.name, name)

    def test_of_programs(self):
        for ask in [cheaper_at, cost_claims]:
            for thing in objects():
                if not isinstance(thing, Program):
                    refused(self, BadProgram, "program", lambda: ask(thing, None, None), thing)
                if not isinstance(thing, Wish):
                    refused(self, BadWish, "wish", lambda: ask(program_p(), thing, None), thing)
                refused(self, BadTerm, "term", lambda: ask(program_p(), wish(), thing), thing)
            for other in [Wish(["b", "a"], ["x", "y"], ("all", [])), Wish(["a", "b"], ["y", "x"], ("all", [])), half()]:
                self.assertRaises(UnlikeNames, ask, program_p(), other, None)
            for coefficients, name in [({"p": 1, "z": 1}, "p"), ({"a": 1, "y2": -1}, "y2")]:
                with self.assertRaises(StrangeName) as caught:
                    ask(program_p(), wish(), (coefficients, 0))
                self.assertEqual(caught.exception.name, name)
            self.assertRaises(StrangeName, ask, program_q(), half(), ({"k": 1}, 0))
