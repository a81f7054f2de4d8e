"""[14.1] to [14.5]: questions, right at all inputs or wrong at one."""

import unittest

from outofwishes.errors import BadProgram, BadWish, UnlikeNames
from outofwishes.judged import are_papers_for, is_right, is_wrong_at, papers_for, questions, wrong_at
from outofwishes.programs import Program, run
from outofwishes.programtexts import read_program
from outofwishes.texts import read_wish
from outofwishes.ways import way_at, ways
from outofwishes.wholes import paper_of, point_of
from outofwishes.wishes import System, Wish, is_point
from tests.checks import are_numbers, objects_to_refuse, paper_flaw, some_bent, told_again
from tests.samples import any_body, any_statement, chances, objects, program_p, program_q, shape, spoil, swapped, wish

NONE = ("none",)


def wish_v():
    rows = [("row", ({"x": 3, "a": -1}, 0)), ("row", ({"x": -3, "a": 1}, 2)), ("row", ({"a": 1}, 0))]
    return Wish(["a"], ["x"], ("all", rows))


def with_number(statement, number, kind, at):
    """A statement in which another number stands in the first statement of a kind, at an index."""
    if statement[0] == kind:
        return (*statement[:at], number, *statement[at + 1:])
    return tuple([with_number(part, number, kind, at) if type(part) is tuple and part and type(part[0]) is str else part for part in statement])


def wrong_is_right(program, asked, thing):
    """Whether any object is a pair as wrong_at tells, by running."""
    if type(thing) not in (list, tuple) or len(thing) != 2 or not are_numbers(thing[0], asked.inputs()):
        return False
    told = run(program, thing[0])
    if told is not None:
        return thing[1] is None and not asked.does(thing[0], told)
    return are_numbers(thing[1], asked.outputs()) and asked.does(thing[0], thing[1])


def any_pair(chance):
    """A program and a wish of the same names, at random."""
    inputs, outputs = ["b", "a"][:chance.randint(1, 2)], ["y", "x"][:chance.randint(0, 2)]
    asked = Wish(inputs, outputs, any_body(chance, inputs + outputs, 2))
    return Program(inputs, outputs, any_statement(chance, inputs, outputs, 3)), asked


class LookedThrough(unittest.TestCase):
    def look_through(self, program, asked):
        """Papers or inputs, looked through; told is whether the program is right."""
        right = is_right(program, asked)
        self.assertIs(type(right), bool)
        if right:
            self.assertIsNone(wrong_at(program, asked))
            papers = told_again(self, lambda: papers_for(program, asked))
            found = questions(program, asked)
            self.assertIs(type(papers), list)
            self.assertEqual(len(papers), len(found))
            for question, paper in zip(found, papers):
                self.assertIsNone(paper_flaw(question, paper))
            self.assertIs(are_papers_for(thing=swapped(papers), wish=asked, program=program), True)
        else:
            self.assertIsNone(papers_for(program, asked))
            pair = told_again(self, lambda: wrong_at(program, asked))
            self.assertIs(type(pair), tuple)
            self.assertTrue(wrong_is_right(program, asked, pair))
            self.assertIs(is_wrong_at(program=program, wish=asked, thing=swapped(pair)), True)
            for numbers in pair:
                self.assertEqual(list(numbers or {}), sorted(numbers or {}))
        return right


class TheExample(LookedThrough):
    def test_p(self):
        self.assertIs(self.look_through(program_p(), wish()), True)
        for number in [12, 14]:
            statement = with_number(program_p().statement(), number, "let", 2)
            self.assertIs(self.look_through(Program(["a", "b"], ["x", "y"], statement), wish()), False)

    def test_q(self):
        self.assertIs(self.look_through(program_q(), wish_v()), True)
        self.assertEqual(len(papers_for(program_q(), wish_v())), 5)
        fewer = Program(["a"], ["x"], with_number(program_q().statement(), 2, "first", 2))
        self.assertIs(self.look_through(fewer, wish_v()), False)
        self.assertIs(is_wrong_at(fewer, wish_v(), ({"a": 1}, {"x": 1})), True)
        given, found = wrong_at(fewer, wish_v())
        self.assertEqual((given["a"] % 3, given["a"] >= 0, found), (1, True, {"x": (given["a"] + 2) // 3}))
        self.assertIs(is_wrong_at(fewer, wish_v(), ({"a": 4}, {"x": 2})), True)
        for thing in [({"a": 1}, {"x": 2}), ({"a": 2}, {"x": 1}), ({"a": 1}, None), ({"a": -2}, {"x": 0}), ({"a": 1}, {}), ({"a": 1},)]:
            self.assertIs(is_wrong_at(fewer, wish_v(), thing), False)


class Questions(unittest.TestCase):
    def test_of_ways_with_terms_and_to_none(self):
        asked = Wish(["a"], ["x", "y"], ("not", ("all", [("by", 3, ({"x": 2, "y": -1, "a": 1}, 4)), ("row", ({"x": 1, "y": 1}, 0))])))
        terms = [({"a": 1, "q": -2}, 3), ({"q": 4}, -1)]
        program = Program(["a"], ["x", "y"], ("let", "q", 2, ({"a": 1}, 0), ("if", ("row", ({"q": 1}, 0)), ("give", terms), NONE)))
        first, second = questions(program=program, wish=asked)
        body = ("not", ("all", [("by", 3, ({"a": 3, "q": -8}, 11)), ("row", ({"a": 1, "q": 2}, 2))]))
        rows = [("row", ({"a": 1, "q": -2}, 0)), ("row", ({"a": -1, "q": 2}, 1))]
        self.assertEqual(first.names(), ["a", "q"])
        self.assertEqual(shape(first.bodies()), shape(rows + [("row", ({"q": 1}, 0)), ("not", body)]))
        self.assertEqual(second.names(), ["a", "q", "x", "y"])
        self.assertEqual(shape(second.bodies()), shape(rows + [("not", ("row", ({"q": 1}, 0))), asked.body()]))

    def test_a_point_just_where_it_is_wrong(self):
        for chance in chances(80, 1):
            program, asked = any_pair(chance)
            found = questions(program, asked)
            systems = ways(program)
            self.assertEqual(len(found), len(systems))
            for _ in range(4):
                given = {name: chance.randint(-6, 6) for name in asked.inputs()}
                index, numbers = way_at(program, given)
                told = run(program, given)
                if told is not None:
                    self.assertIs(is_point(found[index], numbers), not asked.does(given, told))
                else:
                    outputs = {name: chance.randint(-3, 3) for name in asked.outputs()}
                    self.assertIs(is_point(found[index], {**numbers, **outputs}), asked.does(given, outputs))

    def test_the_callers(self):
        kept = [(one.names(), shape(one.bodies())) for one in questions(program_q(), wish_v())]
        for one in questions(program_q(), wish_v()):
            spoil(one.bodies())
            spoil(one.names())
        found = questions(program_q(), wish_v())
        found.clear()
        self.assertEqual([(one.names(), shape(one.bodies())) for one in questions(program_q(), wish_v())], kept)

    def test_errors_in_their_order(self):
        asked = [
            questions, papers_for, wrong_at, is_right, lambda program, wish: are_papers_for(program, wish, None),
            lambda program, wish: is_wrong_at(program, wish, None),
        ]
        for ask in asked:
            for thing in objects():
                if not isinstance(thing, Program):
                    with self.assertRaises(BadProgram) as caught:
                        ask(thing, None)
                    self.assertIs(caught.exception.program, thing)
                if not isinstance(thing, Wish):
                    with self.assertRaises(BadWish) as caught:
                        ask(program_p(), thing)
                    self.assertIs(caught.exception.wish, thing)
            for inputs, outputs in [(["b", "a"], ["x", "y"]), (["a", "b"], ["y", "x"]), (["a"], ["x", "y"]), (["a", "b"], ["x"]), (["a", "b", "x"], ["y"]), ([], []), (["a", "b", "c"], ["x", "y"])]:
                self.assertRaises(UnlikeNames, ask, program_p(), Wish(inputs, outputs, ("all", [])))


class JustOne(LookedThrough):
    def test_at_random(self):
        found = {True: 0, False: 0}
        for chance in chances(150, 2):
            program, asked = any_pair(chance)
            if len(ways(program)) > 40:
                continue
            right = self.look_through(program, asked)
            found[right] += 1
            if right:
                for _ in range(20):
                    given = {name: chance.randint(-30, 30) for name in asked.inputs()}
                    told = run(program, given)
                    self.assertTrue(told is None or asked.does(given, told))
                    near = {name: chance.randint(-9, 9) for name in asked.outputs()}
                    self.assertTrue(told is not None or not asked.does(given, near))
        self.assertGreater(found[True], 5)

    def test_right_programs_and_with_one_number_otherwise(self):
        for asked, program, changes in [
            ("of a give x: 3 * x <= a and a < 3 * x + 3", "of a give x by let q = a over 3; give q", [("3;", "2;"), ("3;", "4;")]),
            ("of a give x: 7 * x >= a and 7 * x <= a + 6", "of a give x by let q = -a over 7; give -q", [("7;", "6;"), ("7;", "8;")]),
            (
                "of a give x: x >= a and 6 divides x and x < a + 6", "of a give x by let q = a + 5 over 6; give 6 * q",
                [("+ 5", "+ 4"), ("+ 5", "+ 6"), ("over 6", "over 5"), ("6 * q", "5 * q")],
            ),
            ("of a, b give x: x >= a and x >= b and (x = a or x = b)", "of a, b give x by most m = a, b; give m", [(", b;", ";"), (", b;", ", b, 0;")]),
            (
                "of a, b give x: x >= a and x >= b and x >= -3 and (x = a or x = b or x = -3)",
                "of a, b give x by most m = a, b, -3; give m", [("-3", "-2"), ("-3", "-4")],
            ),
            (
                "of a give x, y: 3 * x + 5 * y = a and x >= 0 and x <= 4",
                "of a give x, y by first k below 5 by 5 divides a - 3 * k { let q = a - 3 * k over 5; give k, q } else { none }",
                [("below 5", "below 4"), ("a - 3", "a - 2"), ("by 5", "by 4"), ("over 5", "over 4")],
            ),
            (
                "of a give x: 2 * x <= a and 2 * x >= a - 1 and a >= 0",
                "of a give x by if a >= 0 { let q = a over 2; give q } else { none }", [(">= 0", ">= 1"), (">= 0", ">= -1"), ("over 2", "over 3")],
            ),
            (
                "of a give nothing: 4 divides a or 6 divides a",
                "of a give nothing by if 4 divides a { give nothing } else { if 6 divides a { give nothing } else { none } }",
                [("4", "2"), ("6", "5"), ("4", "5"), ("6", "3")],
            ),
            (
                "of a, b give x: 2 * x >= a + b and 2 * x <= a + b + 1",
                "of a, b give x by let p = a over 2; let q = b over 2;"
                " first k below 2 by a + b <= 2 * p + 2 * q + 2 * k { give p + q + k } else { none }",
                [("below 2", "below 1"), ("+ 2 * k", "+ 0 * k"), ("q + k", "q + 2 * k")],
            ),
        ]:
            self.assertIs(self.look_through(read_program(program), read_wish(asked)), True, program)
            for old, new in changes:
                changed = program.replace(old, new, 1)
                self.assertNotEqual(changed, program)
                self.assertIs(self.look_through(read_program(changed), read_wish(asked)), False, changed)

    def test_many_ways(self):
        program = read_program("of a, b give x by first k below 6 by 6 divides a + k { first j below 6 by 6 divides b + j { let q = a + k + b + j over 6; give q } else { none } } else { none }")
        asked = read_wish("of a, b give x: 6 * x >= a + b and 6 * x <= a + b + 10")
        self.assertEqual(len(ways(program)), 43)
        self.assertIs(self.look_through(program, asked), True)
        self.assertIs(self.look_through(program, read_wish("of a, b give x: 6 * x >= a + b and 6 * x <= a + b + 9")), False)
        deep = read_program("of a give x by let p = a over 4; let q = p over 4; let r = q over 4; give r")
        whole = "of a give x: {} and {}"
        self.assertIs(self.look_through(deep, read_wish(whole.format("a >= 0", "x = x"))), False)
        self.assertIs(self.look_through(deep, read_wish("of a give x: a < 0 or a > 63 or x = 0")), True)
        self.assertIs(self.look_through(deep, read_wish("of a give x: a < 0 or a > 64 or x = 0")), False)

    def test_no_inputs_and_no_outputs(self):
        for statement, body, right in [(("give", []), ("all", []), True), (("give", []), ("any", []), False), (NONE, ("any", []), True), (NONE, ("all", []), False)]:
            self.assertIs(self.look_through(Program([], [], statement), Wish([], [], body)), right)
        self.assertEqual(wrong_at(Program([], [], NONE), Wish([], [], ("all", []))), ({}, {}))
        self.assertEqual(wrong_at(Program([], [], ("give", [])), Wish([], [], ("any", []))), ({}, None))
        given, found = wrong_at(Program(["b", "a"], ["y", "x"], NONE), Wish(["b", "a"], ["y", "x"], ("same", ({"x": 1, "a": 1}, 0))))
        self.assertEqual((list(given), list(found)), (["a", "b"], ["x", "y"]))

    def test_the_same_for_what_means_the_same(self):
        other = Program(("a",), ("x",), swapped(program_q().statement()))
        again = Wish(("a",), ("x",), swapped(wish_v().body()))
        self.assertEqual(shape(papers_for(program_q(), wish_v())), shape(papers_for(other, again)))
        wrong = Program(["a"], ["x"], with_number(program_q().statement(), 2, "first", 2))
        self.assertEqual(shape(wrong_at(wrong, wish_v())), shape(wrong_at(Program(("a",), ("x",), swapped(wrong.statement())), again)))


class OfAnyObject(unittest.TestCase):
    def test_papers(self):
        for program, asked in [(program_p(), wish()), (program_q(), wish_v())]:
            papers = papers_for(program, asked)
            found = questions(program, asked)
            for chance in chances(5):
                for other in some_bent(papers, chance, 40):
                    right = type(other) in (list, tuple) and len(other) == len(found) and all(paper_flaw(*pair) is None for pair in zip(found, other))
                    self.assertIs(are_papers_for(program, asked, other), right, other)
            for thing in objects() + objects_to_refuse() + [papers[:-1], papers + papers[:1], papers[::-1] if len(papers) > 1 else None]:
                self.assertIs(are_papers_for(program, asked, thing), False)

    def test_papers_of_a_wrong_program(self):
        wrong = Program(["a"], ["x"], with_number(program_q().statement(), 2, "first", 2))
        papers = [paper_of(one) or ("any", 0, []) for one in questions(wrong, wish_v())]
        self.assertIs(are_papers_for(wrong, wish_v(), papers), False)

    def test_wrong_pairs(self):
        for chance in chances(60, 3):
            program, asked = any_pair(chance)
            if len(ways(program)) > 40:
                continue
            pair = wrong_at(program, asked)
            for other in [] if pair is None else some_bent(pair, chance, 40):
                self.assertIs(is_wrong_at(program, asked, other), wrong_is_right(program, asked, other), other)
            given = {name: chance.randint(-9, 9) for name in asked.inputs()}
            for found in [None, {}, {name: 0 for name in asked.outputs()}]:
                self.assertIs(is_wrong_at(program, asked, (given, found)), wrong_is_right(program, asked, (given, found)))
            for thing in objects() + objects_to_refuse():
                self.assertIs(is_wrong_at(program, asked, thing), False)

    def test_judged_anew(self):
        wrong = Program(["a"], ["x"], with_number(program_q().statement(), 2, "first", 2))
        thing = [{"a": 1}, {"x": 1}]
        self.assertIs(is_wrong_at(wrong, wish_v(), thing), True)
        thing[0]["a"] = 3
        self.assertIs(is_wrong_at(wrong, wish_v(), thing), False)
        thing[0]["a"], thing[1]["x"] = 7, 3
        self.assertIs(is_wrong_at(wrong, wish_v(), thing), True)
        self.assertIsNone(point_of(System(["a"], [("by", 2, ({"a": 2}, 1))])))
