"""[4.5], [4.6]: texts of programs."""

import re
import unittest

from outofwishes.errors import BadProgram
from outofwishes.programs import Program, run
from outofwishes.programtexts import program_fault, program_text, read_program
from tests.samples import NO_NAMES, any_program, chances, deep, objects, program_p, program_q, shape, spoil

HEAD = "of a, b give x by "
NONE = ("none",)
GIVE = ("give", [({}, 0)])
A = ({"a": 1}, 0)


def statement_of(text):
    return read_program(HEAD + text).statement()


class Reading(unittest.TestCase):
    def test_the_example(self):
        text = "of a, b give x, y by let p = -5 * a + b over 13; give 2 * a + 5 * p, -a - 3 * p"
        self.assertEqual(program_text(program_p()), text)
        self.assertEqual(read_program(text), program_p())
        self.assertIsNone(program_fault(text))
        self.assertEqual(shape(program_fault(text.replace("over 13", "over 0"))), shape((45, ["positive"])))
        self.assertIsNone(read_program(text.replace("over 13", "over 0")))
        self.assertEqual(
            program_text(program_q()),
            "of a give x by if 0 <= a { first k below 3 by 3 divides a + k { let q = a + k over 3; give q } else { none } }"
            " else { none }",
        )

    def test_each_kind(self):
        test = ("row", ({"a": 1}, -1))
        for text, told in [
            ("none", NONE), ("give 0", GIVE), ("give a - b + 1 + a", ("give", [({"a": 2, "b": -1}, 1)])),
            ("let p=a;none", ("let", "p", 1, A, NONE)), ("let p = a over 1; none", ("let", "p", 1, A, NONE)),
            ("let p = -3 over 7; give p", ("let", "p", 7, ({}, -3), ("give", [({"p": 1}, 0)]))),
            ("most m = a; none", ("most", "m", [A], NONE)), ("most m = a, -b, 0; give m", ("most", "m", [A, ({"b": -1}, 0), ({}, 0)], ("give", [({"m": 1}, 0)]))),
            ("if a > 0 { none } else { give 0 }", ("if", test, NONE, GIVE)), ("if 2 divides a{none}else{none}", ("if", ("by", 2, A), NONE, NONE)),
            ("first k below 3 by nothing { give k } else { none }", ("first", "k", 3, [], ("give", [({"k": 1}, 0)]), NONE)),
            ("first k below 1 by k = a, 0 < a, 3 divides k { none } else { let k = b; none }",
             ("first", "k", 1, [("same", ({"a": -1, "k": 1}, 0)), test, ("by", 3, ({"k": 1}, 0))], NONE, ("let", "k", 1, ({"b": 1}, 0), NONE))),
            ("let p = a; most q = p; let r = q; give r",
             ("let", "p", 1, A, ("most", "q", [({"p": 1}, 0)], ("let", "r", 1, ({"q": 1}, 0), ("give", [({"r": 1}, 0)]))))),
            ("if a = 0 { let p = 0; none } else { let p = 1; none }",
             ("if", ("same", A), ("let", "p", 1, ({}, 0), NONE), ("let", "p", 1, ({}, 1), NONE))),
        ]:
            self.assertEqual(shape(statement_of(text)), shape(told), text)
            self.assertEqual(shape(statement_of(text.replace(" ", "\n  "))), shape(told), text)
            self.assertIsNone(program_fault(HEAD + text))
            self.assertEqual(read_program(program_text(Program(["a", "b"], ["x"], told))).statement(), told)

    def test_no_programs(self):
        for text in [
            "", "give", "give nothing", "give 0, 0", "give x", "none none", "none;", "{ none }", "let p = 0 none", "let = 0; none", "let p 0; none",
            "let a = 0; none", "let x = 0; none", "let p = p; none", "let p = 0; let p = 0; none", "let p = 0 over 0; none", "let p = 0 over -1; none",
            "let p = 0 over a; none", "let p = 0;", "let p = 0, 1; none", "most m = ; none", "most m = nothing; none", "most m = 0, ; none",
            "most m = 0 over 2; none", "most m = m; none", "if a = 0 { none }", "if a = 0 { none } else none", "if a = 0 none else none",
            "if a { none } else { none }", "if not a = 0 { none } else { none }", "if (a = 0) { none } else { none }", "if { none } else { none }",
            "if a = 0 and b = 0 { none } else { none }", "if a = 0 { } else { none }", "if a = 0 { let p = 0; none } else { give p }",
            "first k below 0 by nothing { none } else { none }", "first k below a by nothing { none } else { none }", "first a below 2 by nothing { none } else { none }",
            "first k below 2 by { none } else { none }", "first k below 2 by nothing, 0 = 0 { none } else { none }", "first k below 2 { none } else { none }",
            "first k below 2 by nothing { none } else { give k }", "first k below 2 by all() { none } else { none }", "first k below 2 by nothing { none }",
            "first k below 2 by 0 = 0 and 0 = 0 { none } else { none }", "first x below 2 by nothing { none } else { none }",
        ]:
            self.assertIsNone(read_program(HEAD + text), text)
            self.assertIsNotNone(program_fault(HEAD + text), text)
        for text in ["of a give x: none", "of a give x none", "give x by none", "of a, a give x by none", "of a give a by none", "by none"]:
            self.assertIsNone(read_program(text), text)

    def test_no_outputs(self):
        self.assertEqual(read_program("of nothing give nothing by give nothing"), Program([], [], ("give", [])))
        self.assertEqual(program_text(Program([], [], ("give", []))), "of nothing give nothing by give nothing")
        self.assertEqual(program_fault("of a give nothing by give a"), (26, ["nothing"]))

    def test_names(self):
        for name in NO_NAMES:
            if re.fullmatch("[a-z0-9]+", name):
                self.assertEqual(program_fault(HEAD + f"let {name} = 0; none"), (len(HEAD) + 4, ["new"]))


class Writing(unittest.TestCase):
    def test_each_kind(self):
        for statement, text in [
            (NONE, "none"), (("give", [({"b": -1, "a": -2}, -3)]), "give -2 * a - b - 3"), (("let", "p", 1, A, NONE), "let p = a; none"),
            (("let", "p", 2, ({}, 0), NONE), "let p = 0 over 2; none"), (("most", "m", [A, ({"b": -1}, 2)], NONE), "most m = a, -b + 2; none"),
            (("if", ("same", ({"a": -1}, 2)), NONE, GIVE), "if 2 = a { none } else { give 0 }"),
            (("first", "k", 9, [], NONE, NONE), "first k below 9 by nothing { none } else { none }"),
            (("first", "k", 9, [("row", ({"k": -1}, 3)), ("by", 2, A)], NONE, GIVE), "first k below 9 by k <= 3, 2 divides a { none } else { give 0 }"),
        ]:
            self.assertEqual(program_text(program=Program(["a", "b"], ["x"], statement)), HEAD + text)

    def test_bad_program(self):
        for thing in objects() + [program_p().statement()]:
            if not isinstance(thing, Program):
                with self.assertRaises(BadProgram) as caught:
                    program_text(thing)
                self.assertIs(caught.exception.program, thing)

    def test_there_and_back(self):
        for chance in chances(300):
            program = any_program(chance)
            text = program_text(program)
            self.assertEqual(read_program(text), program)
            self.assertEqual(shape(read_program(text).statement()), shape(program.statement()))
            self.assertIsNone(program_fault(text))
            self.assertEqual(program_text(read_program(text)), text)
            given = {name: chance.randint(-20, 20) for name in program.inputs()}
            self.assertEqual(run(read_program(text), given), run(program, given))

    def test_sixty_deep(self):
        for wrap in [lambda one: ("if", ("row", A), one, NONE), lambda one: ("if", ("row", A), NONE, one),
                     lambda one: ("first", "k", 2, [], NONE, one)]:
            program = Program(["a", "b"], ["x"], deep(GIVE, 60, wrap))
            self.assertEqual(read_program(program_text(program)), program)
        inner = NONE
        for number in range(30):
            inner = ("let", f"p{number}", 2, A, ("most", f"q{number}", [A], inner))
        program = Program(["a", "b"], ["x"], inner)
        self.assertEqual(read_program(program_text(program)), program)

    def test_told_programs_do_not_hang_together(self):
        text = program_text(program_q())
        spoil(read_program(text).statement())
        self.assertEqual(read_program(text), program_q())


class Faults(unittest.TestCase):
    def test_no_strings(self):
        for thing in objects():
            if not isinstance(thing, str):
                self.assertEqual(shape(program_fault(text=thing)), shape((0, ["of"])))
                self.assertIsNone(read_program(text=thing))

    def test_places_and_sorts(self):
        starts = ["first", "give", "if", "let", "most", "none"]
        signs = ["+", "-", "<", "<=", "=", ">", ">="]
        for text, place, sorts in [
            ("", 0, starts), ("give", 4, ["-", "name", "number"]), ("give x", 5, ["-", "name", "number"]), ("give a,", 6, ["", "+", "-"]),
            ("give 3 x", 7, ["", "*", "+", "-"]), ("none x", 5, [""]), ("let", 3, ["new"]), ("let a", 4, ["new"]), ("let x", 4, ["new"]),
            ("let p", 5, ["="]), ("let p =", 7, ["-", "name", "number"]), ("let p = p", 8, ["-", "name", "number"]),
            ("let p = 3", 9, ["*", "+", "-", ";", "over"]), ("let p = a", 9, ["+", "-", ";", "over"]), ("let p = a over", 14, ["positive"]),
            ("let p = a over 0", 15, ["positive"]), ("let p = a over 01", 15, ["positive"]), ("let p = a over 2", 16, [";"]), ("let p = a; x", 11, starts),
            ("let p = a; let p", 15, ["new"]), ("most m = a", 10, ["+", ",", "-", ";"]), ("most m = 0", 10, ["*", "+", ",", "-", ";"]),
            ("most m = nothing", 9, ["-", "name", "number"]), ("if", 2, ["-", "name", "number"]), ("if not a = 0", 3, ["-", "name", "number"]),
            ("if a {", 5, signs), ("if 3 {", 5, ["*"] + signs + ["divides"]), ("if a = 0", 8, ["*", "+", "-", "{"]), ("if a = b and", 9, ["+", "-", "{"]),
            ("if a = 0 {", 10, starts), ("if a = 0 { none", 15, ["}"]), ("if a = 0 { give 1", 17, ["*", "+", "-", "}"]), ("if a = 0 { none }", 17, ["else"]),
            ("if a = 0 { none } else", 22, ["{"]), ("if a = 0 { none } else { let p = 0; none }", None, None), ("if a = 0 { none } else { none } else", 32, [""]),
            ("if a = 0 { let p = 0; none } else { give p }", 41, ["-", "name", "number"]), ("first", 5, ["new"]), ("first k", 7, ["below"]),
            ("first k below 0", 14, ["positive"]), ("first k below 3", 15, ["by"]), ("first k below 3 by", 18, ["-", "name", "nothing", "number"]),
            ("first k below 3 by k", 20, signs), ("first k below 3 by nothing", 26, ["{"]), ("first k below 3 by k = 0", 24, ["*", "+", ",", "-", "{"]),
            ("first k below 3 by k = 0,", 25, ["-", "name", "number"]), ("first k below 3 by k = 0, nothing", 26, ["-", "name", "number"]),
            ("first k below 3 by nothing { none } else { give k }", 48, ["-", "name", "number"]), ("first k below 3 by nothing { let k = 0", 33, ["new"]),
            ("first k below 3 by nothing { none } else { let k = k", 51, ["-", "name", "number"]),
        ]:
            told = None if place is None else (len(HEAD) + place, sorts)
            self.assertEqual(shape(program_fault(HEAD + text)), shape(told), text)
            self.assertEqual(read_program(HEAD + text) is None, place is not None, text)

    def test_headers_and_outputs(self):
        for text, place, sorts in [
            ("", 0, ["of"]), ("\n", 1, ["of"]), ("of a give x:", 11, [",", "by"]), ("of a give nothing", 17, ["by"]), ("of a give a", 10, ["new", "nothing"]),
            ("of nothing give x by give", 25, ["-", "number"]), ("of nothing give x by give 3 * x", 28, ["", "+", "-"]),
            ("of nothing give x by give x", 26, ["-", "number"]), ("of nothing give nothing by give 0", 32, ["nothing"]),
            ("of nothing give nothing by give nothing x", 40, [""]), ("of a give x, y by give a", 24, ["+", ",", "-"]),
            ("of a give x, y by give a, a,", 27, ["", "+", "-"]), ("of nothing give nothing by if 0 = 0 { none", 42, ["}"]),
            ("of nothing give x by first k below 2 by k", 41, ["+", "-", "<", "<=", "=", ">", ">="]),
            ("of nothing give x by first k below 2 by 2", 41, ["*", "+", "-", "<", "<=", "=", ">", ">=", "divides"]),
        ]:
            self.assertEqual(shape(program_fault(text)), shape((place, sorts)), text)

    def test_cut_short_anywhere(self):
        text = program_text(program_q())
        for end in range(len(text)):
            fault = program_fault(text[:end])
            self.assertIsNone(read_program(text[:end]))
            word = re.search("[a-z]*$", text[:end]).start()
            cut = word < end and text[end].isalpha()
            self.assertEqual(fault[0], word if cut else end, text[:end])
