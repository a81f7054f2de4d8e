"""[17.1] to [17.4]: wishes at inputs, for which inputs they are granted, and made programs."""

import unittest

from outofwishes.bodies import is_body, names_in
from outofwishes.charts import chart_fault, code_of
from outofwishes.deadplaces import dead_places
from outofwishes.errors import BadGiven, BadWish
from outofwishes.judged import is_right, papers_for, questions
from outofwishes.leasts import least_of
from outofwishes.machine import play
from outofwishes.maker import made, system_at, when
from outofwishes.programs import Program, most_by_text, places
from outofwishes.programtexts import program_text, read_program
from outofwishes.stepsmost import greatest_steps
from outofwishes.texts import read_wish
from outofwishes.ways import ways
from outofwishes.wholes import paper_of, point_of
from outofwishes.wishes import Wish, is_point
from tests.checks import (
    are_numbers, figures, is_so_by_hand, paper_flaw, put_by_hand, refused, run_by_hand, told_again, told_body_by_hand, told_system,
)
from tests.samples import NO_NUMBERS_OF_A, any_body, chances, objects, shape, spoil, swapped, wish
from tests.wishmakers import any_wish, strip_wish

COINS = "of a give x, y: 3 * x + 5 * y = a and x >= 0 and y >= 0"
WISHES = [
    "of a give x: 3 * x <= a and 3 * x > a - 3", "of a give x: 9 * x >= a and 9 * x < a + 9", "of a give q, r: 7 * q + r = a and 0 <= r and r < 7",
    "of a give r: 5 divides a - r and 0 <= r and r <= 4", "of a, b give x, y: x + y = a and x - y <= 1 and y - x <= 1 and b = b", COINS,
    "of a, b give x: x >= a and x >= b and (x = a or x = b)", "of a, b give x, y: x + y = a and x - y = b", "of a give x, y: x = 2 * y and y = 3 * x - a",
    "of a give x: 6 divides x and x >= a and x <= a + 5", "of a give x: 4 divides x - 1 and 6 divides x - a", "of a give x: (a >= 0 and x = a) or (a < 0 and x = -a)",
    "of a, b give x: 2 * x = a or 3 * x = b or (x = 0 and a = b)", "of a, b give x, y, z: x + y + z = a and x <= y and y <= z and z <= x + 1 and b = b",
    "of a, b give x, y, z: x >= a and y >= b and x + y + z <= 0 and x - z <= 3 and y - z <= 5 and x + y - z <= 7", "of a give x, y, z: 5 * x + 3 * y + 4 * z = a and x >= 0 and y >= 0 and z >= 0",
    "of a give x, y, z: 2 * x + 3 * y + 5 * z = a and x - y + z = 3 and x >= 0 and x <= 9", "of a, b give x, y: 2 * x + 3 * y >= a and 3 * x + 2 * y <= b and 3 * x - y <= a and 3 * y - 2 * x <= b",
    "of a, b give x, y: 3 * x >= 2 * y + a and 3 * y >= 2 * x + b and 3 * x + 3 * y <= 2 * a + 2 * b + 4", "of a, b give x, y: 3 * x - 3 * y >= a and 3 * x - 3 * y <= b and 4 divides x + y",
    "of a, b give x, y: (2 * x + 3 * y = a and x >= b) or (3 * x - 2 * y = b and y >= a) or (x = y and 2 * x = a + b)", "of a, b give x, y: 2 divides 3 * x + y + a and 2 * x - 3 * y >= b and 2 * x - 3 * y <= b + 1",
    "of a give nothing: 2 divides a or a >= 7", "of a give nothing: any()", "of nothing give x: 7 * x >= 30 and 3 divides x", "of nothing give x: 2 * x = 5", "of nothing give nothing: all()",
    "of nothing give x, y: 3 * x + 3 * y = 8", "of a give x: a >= 0", "of a give x: not (a = 5 or x = a)", "of a, b give x: x >= a and x <= b and 5 divides 3 * x + 2", "of a give x: 9 * x >= 4 * a and 8 * x <= 5 * a",
    "of a, b give x: x <= a + 1000 and x <= b - 1000 and 4 divides x - a", "of a, b give x: -7 * x <= 3 * a and 6 divides x and 4 divides x", "of q0 give k0: 5 * k0 >= q0 and 5 * k0 <= q0 + 3",
    "of m0, q0 give q1, m1: 2 * q1 + 3 * m1 = m0 and q1 >= q0 and m1 >= q0",
]


def numbers_for(chance, names):
    size = chance.choice([3, 20, 20, 300, 10 ** 6, 10 ** 15])
    return {name: chance.randint(-size, size) for name in names}


def depth_of(body):
    """How deep a body is."""
    if body[0] == "not":
        return 1 + depth_of(body[1])
    return 1 + max([0] + [depth_of(inner) for inner in body[1]]) if body[0] in ("all", "any") else 1


class SystemAt(unittest.TestCase):
    def test_the_example(self):
        self.assertEqual(told_system(system_at(read_wish(COINS), {"a": 7})), shape((["x", "y"], [("all", [
            ("same", ({"x": 3, "y": 5}, -7)), ("row", ({"x": 1}, 0)), ("row", ({"y": 1}, 0)),
        ])])))
        self.assertIsNone(point_of(system_at(read_wish(COINS), {"a": 7})))
        paper = ("span", ({"x": 1}, 0), [(0, 1), (1, 1), (0, 1)], [(-1, 3), (0, 1), (5, 3)], [("gauge", [(1, 5)] + [(0, 1)] * 2 + [fraction]) for fraction in [(-3, 5)] * 3])
        self.assertIsNone(paper_flaw(system_at(read_wish(COINS), {"a": 7}), paper))

    def test_nothing_else_is_changed(self):
        body = ("any", [("not", ("by", 6, ({"x": 0, "a": 4, "y": 2}, 3))), ("all", []), ["same", [{"b": 2, "a": -1}, 5]], ("row", ({"y": 2, "x": -4}, 6))])
        asked = Wish(["b", "a"], ["y", "x"], body)
        told = system_at(asked, {"a": 3, "b": -10 ** 15})
        self.assertEqual(told.names(), ["y", "x"])
        expected = ("any", [("not", ("by", 6, ({"y": 2}, 15))), ("all", []), ("same", ({}, 2 - 2 * 10 ** 15)), ("row", ({"x": -4, "y": 2}, 6))])
        self.assertEqual(shape(told.bodies()), shape([expected]))

    def test_its_points_do(self):
        for chance in chances(100, 81):
            asked = Wish(["b", "a"], ["y", "x"], any_body(chance, ["a", "b", "x", "y"], 3))
            given = {name: chance.randint(-9, 9) for name in ["a", "b"]}
            told = system_at(given=given, wish=asked)
            body = asked.body()
            for name in given:
                body = put_by_hand(body, name, ({}, given[name]))
            self.assertEqual(told_system(told), shape((["y", "x"], [told_body_by_hand(body)])))
            for _ in range(5):
                found = {name: chance.randint(-4, 4) for name in ["x", "y"]}
                self.assertIs(is_point(told, found), asked.does(given, found))

    def test_what_costs_least_at_the_inputs(self):
        self.assertEqual(least_of(system_at(read_wish(COINS), {"a": 23}), ({"x": 1, "y": 1}, 0))[:2], ("least", 5))

    def test_errors(self):
        for thing in objects():
            if not isinstance(thing, Wish):
                refused(self, BadWish, "wish", lambda: system_at(thing, None), thing)
                refused(self, BadWish, "wish", lambda: when(thing), thing)
                refused(self, BadWish, "wish", lambda: made(thing), thing)
        for thing in NO_NUMBERS_OF_A:
            refused(self, BadGiven, "given", lambda: system_at(read_wish(COINS), thing), thing)

    def test_the_callers(self):
        asked, given = wish(), {"a": 1, "b": 0}
        kept = told_system(system_at(asked, given))
        told = system_at(asked, given)
        spoil(told.bodies())
        given["a"] = 2
        self.assertEqual(told_system(told), kept)
        self.assertEqual(told_system(system_at(asked, {"b": 0, "a": 1})), kept)


class LookedThrough(unittest.TestCase):
    def look_through(self, asked, chance, many):
        """A made program and when, run at drawn inputs; told is the program."""
        program = made(asked)
        self.assertIsInstance(program, Program)
        self.assertEqual((program.inputs(), program.outputs()), (asked.inputs(), asked.outputs()))
        body = when(asked)
        self.assertTrue(is_body(body))
        self.assertEqual(shape(body), shape(told_body_by_hand(body)))
        self.assertLessEqual(depth_of(body), 20)
        self.assertLessEqual(set(names_in(body)), set(asked.inputs()))
        self.assertLess(figures((body, program.statement())), 1000)
        most = most_by_text(program)[0]
        for _ in range(many):
            given = numbers_for(chance, asked.inputs())
            answer, steps, _ = run_by_hand(program, given)
            self.assertLessEqual(steps, most)
            self.assertIs(is_so_by_hand(body, given), answer is not None, given)
            if answer is not None:
                self.assertTrue(are_numbers(answer, asked.outputs()))
                self.assertTrue(asked.does(given, answer), (given, answer))
            else:
                system = system_at(asked, given)
                self.assertIsNone(paper_flaw(system, paper_of(system)))
        return program

    def look_at_papers(self, program, asked):
        """Papers for a program that it is right, looked through."""
        papers = papers_for(program, asked)
        self.assertIsNotNone(papers)
        for question, paper in zip(questions(program, asked), papers):
            self.assertIsNone(paper_flaw(question, paper))


class Made(LookedThrough):
    def test_the_example(self):
        asked = read_wish(COINS)
        program = self.look_through(asked, chances(1)[0], 30)
        self.look_at_papers(program, asked)
        body = when(asked)
        for number in range(-20, 60):
            right = number >= 0 and number not in (1, 2, 4, 7)
            self.assertIs(is_so_by_hand(body, {"a": number}), right)
            self.assertIs(run_by_hand(program, {"a": number})[0] is not None, right)
        statement = ("first", "x0", 5, [("by", 5, ({"a": 1, "x0": -3}, 0)), ("row", ({"a": 1, "x0": -3}, 0))], ("let", "y0", 5, ({"a": 1, "x0": -3}, 0), ("give", [({"x0": 1}, 0), ({"y0": 1}, 0)])), ("none",))
        self.assertIs(is_right(Program(["a"], ["x", "y"], statement), asked), True)

    def test_w(self):
        self.look_at_papers(self.look_through(wish(), chances(1)[0], 30), wish())

    def test_wishes_of_all_sorts(self):
        for text in WISHES:
            asked = read_wish(text)
            self.assertIsNotNone(asked, text)
            program = self.look_through(asked, chances(1, 82)[0], 25)
            if len(places(program)) <= 12:
                self.look_at_papers(program, asked)
            self.assertEqual(shape(made(wish=asked).statement()), shape(program.statement()))

    def test_at_random(self):
        granted = {True: 0, False: 0}
        for make in [any_wish, strip_wish]:
            for chance in chances(90, 83):
                asked = make(chance)
                program = self.look_through(asked, chance, 10)
                for _ in range(5):
                    granted[run_by_hand(program, numbers_for(chance, asked.inputs()))[0] is None] += 1
                if len(places(program)) <= 8:
                    self.look_at_papers(program, asked)
        self.assertGreater(min(granted.values()), 100)

    def test_near_and_exactly(self):
        for make in [any_wish, strip_wish]:
            for chance in chances(40, 84):
                asked = make(chance, outputs=1)
                program, body = made(asked), when(asked)
                for _ in range(5):
                    given = {name: chance.randint(-6, 6) for name in asked.inputs()}
                    some = [number for number in range(-60, 61) if asked.does(given, {"x": number})]
                    answer = run_by_hand(program, given)[0]
                    if some:
                        self.assertTrue(answer is not None and asked.does(given, answer))
                        self.assertIs(is_so_by_hand(body, given), True)

    def test_what_else_asks_made_programs(self):
        for chance in chances(25, 85):
            asked = chance.choice([any_wish, strip_wish])(chance)
            program = made(asked)
            self.assertEqual(read_program(program_text(program)), program)
            code, chart = code_of(program)
            self.assertIsNone(chart_fault(program, code, chart))
            given = numbers_for(chance, asked.inputs())
            self.assertEqual(play(program, code, given), run_by_hand(program, given)[0])
            if len(ways(program)) <= 4:
                number, most = greatest_steps(program)
                self.assertEqual(run_by_hand(program, most)[1], number)
                for place in dead_places(program):
                    self.assertIn(place, places(program))

    def test_what_means_the_same(self):
        for text in WISHES[:8]:
            asked = read_wish(text)
            body = swapped(asked.body())
            other = Wish(tuple(asked.inputs()), tuple(asked.outputs()), body)
            self.assertEqual(shape(made(other).statement()), shape(made(asked).statement()))
            kept = told_again(self, lambda: when(wish=asked))
            self.assertEqual(shape(when(other)), shape(kept))
            spoil(made(asked).statement())
            self.assertEqual(made(other), made(asked))
        zeros = Wish(["a"], ["x"], ("row", ({"x": 2, "a": 0}, -3)))
        self.assertEqual(made(zeros), made(Wish(["a"], ["x"], ("row", ({"x": 2}, -3)))))
