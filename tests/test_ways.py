"""[13.1] to [13.3]: ways through programs."""

import unittest

from outofwishes.errors import BadGiven, BadProgram
from outofwishes.programs import Program, run, steps, trail
from outofwishes.terms import term_at
from outofwishes.wholes import paper_of, point_of
from outofwishes.ways import way_at, ways
from outofwishes.wishes import System, is_point
from tests.checks import paper_flaw, told_again
from tests.samples import (
    NO_NUMBERS_OF_A, any_program, chances, objects, program_p, program_q, shape, spoil, swapped, wish,
)

NONE = ("none",)
A = ({"a": 1}, 0)
B = ({"b": 2}, -1)


def program(statement, inputs=("a", "b"), outputs=("x",)):
    return Program(inputs, outputs, statement)


def give(coefficients, constant=0):
    return ("give", [(coefficients, constant)])


def told(one):
    """A way as what tells all: names, bodies, steps, end."""
    return (one[0].names(), one[0].bodies(), one[1], one[2])


def small_program(chance):
    """A program at random with not very many ways."""
    while True:
        found = any_program(chance, 4)
        if len(ways(found)) <= 40:
            return found


class TheExample(unittest.TestCase):
    def test_q(self):
        found = ways(program_q())
        self.assertEqual(len(found), 5)
        by = [("by", 3, ({"a": 1}, number)) for number in range(3)]
        failed = [("not", ("all", [one])) for one in by]
        row = ("row", ({"a": 1}, 0))
        let = [("row", ({"a": 1, "k": 1, "q": -3}, 0)), ("row", ({"a": -1, "k": -1, "q": 3}, 2))]
        tests = ("by", 3, ({"a": 1, "k": 1}, 0))
        for number in range(3):
            bodies = [row, ("same", ({"k": 1}, -number)), *failed[:number], tests, *let]
            self.assertEqual(shape(told(found[number])), shape((["a", "k", "q"], bodies, number + 4, [({"q": 1}, 0)])))
        self.assertEqual(shape(told(found[3])), shape((["a"], [row, *failed], 5, None)))
        self.assertEqual(shape(told(found[4])), shape((["a"], [("not", row)], 2, None)))
        self.assertEqual(way_at(program_q(), {"a": 2}), (1, {"a": 2, "k": 1, "q": 1}))
        self.assertIsNone(point_of(found[3][0]))

    def test_p(self):
        (one,) = ways(program_p())
        bodies = [("row", ({"a": -5, "b": 1, "p": -13}, 0)), ("row", ({"a": 5, "b": -1, "p": 13}, 12))]
        self.assertEqual(shape(told(one)), shape((["a", "b", "p"], bodies, 2, [({"a": 2, "p": 5}, 0), ({"a": -1, "p": -3}, 0)])))


class EachKind(unittest.TestCase):
    def look(self, statement, *expected, inputs=("a", "b")):
        self.assertEqual(shape([told(one) for one in ways(program(statement, inputs))]), shape(list(expected)))

    def test_give_and_none(self):
        self.look(NONE, (["a", "b"], [], 1, None))
        self.look(["give", ([{"b": 1, "a": 0}, 5],)], (["a", "b"], [], 1, [({"b": 1}, 5)]))
        self.assertEqual(shape([told(one) for one in ways(Program([], [], ("give", [])))]), shape([([], [], 1, [])]))

    def test_let(self):
        rows = [("row", ({"a": 1, "c": -1}, 0)), ("row", ({"a": -1, "c": 1}, 0))]
        self.look(("let", "c", 1, A, give({"c": 1})), (["a", "b", "c"], rows, 2, [({"c": 1}, 0)]))
        rows = [("row", ({"b": 2, "c": -5}, -1)), ("row", ({"b": -2, "c": 5}, 5))]
        self.look(("let", "c", 5, B, NONE), (["a", "b", "c"], rows, 2, None))

    def test_most(self):
        rows = [("row", ({"a": -1, "m": 1}, 0)), ("row", ({"b": -2, "m": 1}, 1))]
        some = ("any", [("same", ({"a": -1, "m": 1}, 0)), ("same", ({"b": -2, "m": 1}, 1))])
        self.look(("most", "m", [A, B], NONE), (["a", "b", "m"], rows + [some], 2, None))
        self.look(("most", "m", (A,), NONE), (["a", "b", "m"], rows[:1] + [("any", some[1][:1])], 2, None))
        self.look(("most", "m", [A, A], NONE), (["a", "b", "m"], rows[:1] * 2 + [("any", some[1][:1] * 2)], 2, None))

    def test_if(self):
        for test in [("row", A), ("same", ({"b": 3}, 1)), ("by", 4, A)]:
            self.look(("if", test, NONE, give({})), (["a", "b"], [test], 2, None), (["a", "b"], [("not", test)], 2, [({}, 0)]))

    def test_first(self):
        tests = [("row", ({"a": 1, "k": 2}, 0)), ("by", 3, ({"b": 1}, 0)), ("same", ({"k": -1}, 1))]
        failed = [("not", ("all", [("row", ({"a": 1}, 2 * number)), ("by", 3, ({"b": 1}, 0)), ("same", ({}, 1 - number))])) for number in range(2)]
        names = ["a", "b", "k"]
        self.look(
            ("first", "k", 2, tests, give({"k": 1}), NONE), (names, [("same", ({"k": 1}, 0)), *tests], 2, [({"k": 1}, 0)]),
            (names, [("same", ({"k": 1}, -1)), failed[0], *tests], 3, [({"k": 1}, 0)]), (["a", "b"], failed, 3, None),
        )
        never = ("not", ("all", []))
        self.look(("first", "k", 2, [], NONE, NONE), (names, [("same", ({"k": 1}, 0))], 2, None), (names, [("same", ({"k": 1}, -1)), never], 3, None), (["a", "b"], [never] * 2, 3, None))

    def test_one_within_another(self):
        inner = ("if", ("row", A), ("let", "d", 2, ({"k": 1, "m": 1}, 0), give({"d": 1})), NONE)
        statement = ("most", "m", [A], ("first", "k", 2, [], inner, ("let", "k", 1, B, inner)))
        found = ways(program(statement))
        self.assertEqual([one[0].names() for one in found], [["a", "b", "m", "k", "d"], ["a", "b", "m", "k"]] * 3)
        self.assertEqual([one[1] for one in found], [5, 4, 6, 5, 7, 6])
        self.assertEqual([one[2] is None for one in found], [False, True] * 3)
        let = [("row", ({"d": -2, "k": 1, "m": 1}, 0)), ("row", ({"d": 2, "k": -1, "m": -1}, 1))]
        most = [("row", ({"a": -1, "m": 1}, 0)), ("any", [("same", ({"a": -1, "m": 1}, 0))])]
        never = ("not", ("all", []))
        self.assertEqual(found[2][0].bodies(), most + [("same", ({"k": 1}, -1)), never, ("row", A)] + let)
        own = [("row", ({"b": 2, "k": -1}, -1)), ("row", ({"b": -2, "k": 1}, 1))]
        self.assertEqual(found[5][0].bodies(), most + [never] * 2 + own + [("not", ("row", A))])

    def test_names_as_they_are_set(self):
        statement = ("let", "z", 1, A, ("most", "c", [A], ("let", "d", 1, A, NONE)))
        self.assertEqual(ways(program(statement, ("b", "a")))[0][0].names(), ["b", "a", "z", "c", "d"])


class JustOne(unittest.TestCase):
    def test_at_random(self):
        for chance in chances(150):
            asked = small_program(chance)
            found = told_again(self, lambda: ways(asked))
            self.assertEqual(shape([told(one) for one in ways(program=asked)]), shape([told(one) for one in found]))
            for one in found:
                self.assertEqual([type(part) for part in one], [System, int, list if one[2] is not None else type(None)])
            for _ in range(4):
                given = {name: chance.choice([chance.randint(-9, 9), chance.randint(-10 ** 15, 10 ** 15)]) for name in asked.inputs()}
                index, point = told_again(self, lambda: way_at(program=asked, given=given))
                self.assertIs(type(index), int)
                system, many, end = found[index]
                self.assertTrue(is_point(system, point))
                self.assertEqual(list(point), sorted(system.names()))
                self.assertEqual(point, trail(asked, given)[-1][1])
                self.assertEqual(many, steps(asked, given))
                answer = None if end is None else {name: term_at(term, point) for name, term in zip(asked.outputs(), end)}
                self.assertEqual(answer, run(asked, given))

    def test_all_other_ways_have_none(self):
        for chance in chances(40, 1):
            asked = small_program(chance)
            given = {name: chance.randint(-9, 9) for name in asked.inputs()}
            sames = [("same", ({name: 1}, -number)) for name, number in given.items()]
            index, point = way_at(asked, given)
            for at, (system, _, _) in enumerate(ways(asked)):
                fixed = System(system.names(), system.bodies() + sames)
                if at == index:
                    self.assertEqual(point_of(fixed), point)
                    others = [("not", ("all", [("same", ({name: 1}, -number)) for name, number in point.items()]))]
                    self.assertIsNone(point_of(System(system.names(), fixed.bodies() + others)))
                else:
                    self.assertIsNone(point_of(fixed))
                    self.assertIsNone(paper_flaw(fixed, paper_of(fixed)))

    def test_the_callers(self):
        asked = program_q()
        kept = shape([told(one) for one in ways(asked)])
        found = ways(asked)
        for system, _, end in found:
            spoil(system.bodies())
            spoil(end)
        found.clear()
        self.assertEqual(shape([told(one) for one in ways(asked)]), kept)
        statement = swapped(asked.statement())
        self.assertEqual(shape([told(one) for one in ways(Program(("a",), ("x",), statement))]), kept)

    def test_errors(self):
        for thing in objects() + [wish(), program_q().statement()]:
            if not isinstance(thing, Program):
                for ask in [ways, lambda one: way_at(one, None)]:
                    with self.assertRaises(BadProgram) as caught:
                        ask(thing)
                    self.assertIs(caught.exception.program, thing)
        for given in NO_NUMBERS_OF_A:
            with self.assertRaises(BadGiven) as caught:
                way_at(program_q(), given)
            self.assertIs(caught.exception.given, given)
