"""[20.1], [20.4]: codes, how they are played, and programs made of them."""

import unittest

from outofwishes.charts import code_of
from outofwishes.errors import BadCode, BadGiven, BadProgram
from outofwishes.machine import as_program, is_code, lines_done, play
from outofwishes.programs import Program
from outofwishes.unlikes import alike_papers, unlike_at
from tests.checks import bent, objects_to_refuse, put_by_hand, refused, run_by_hand, some_bent, told_again, is_int, is_row, is_so_by_hand, term_is_right, value_by_hand
from tests.samples import NO_NUMBERS_OF_A, any_program, any_term, any_test, chances, objects, program_p, program_q, shape, swapped, wish

WORDS = "of give nothing and or not all any divides none let most if else first below by over".split()
CODE_P = (2, [("set", "r1", 13, ({"r0": -5, "r1": 1}, 0)), ("give", [({"r0": 2, "r1": 5}, 0), ({"r0": -1, "r1": -3}, 0)])])
CODE = (3, [
    ("jump", ("by", 3, ({"r0": 1, "r2": 0}, 1)), 4), ("set", "r1", 3, ({"r0": 1}, 1)), ("go", 5), ("none",),
    ("set", "r1", 1, ({"r0": 2, "z": 0}, -1)), ("jump", ("row", ({"r1": 1}, 0)), 7), ("give", [({"r1": 1, "r2": 4}, 0)]), ("none",),
])


def is_name(thing):
    return type(thing) is str and 1 <= len(thing) <= 8 and thing not in WORDS and thing[0] in "abcdefghijklmnopqrstuvwxyz" and all(sign in "abcdefghijklmnopqrstuvwxyz0123456789" for sign in thing)


def is_right_term(thing, many):
    """Whether any object is a term of so many registers."""
    if not term_is_right(thing) or not all(is_name(name) for name in thing[0]):
        return False
    cells = {f"r{number}" for number in range(min(many, 2000))}
    return all(name in cells for name, number in thing[0].items() if number != 0)


def is_right_test(thing, many):
    if not is_row(thing) or len(thing) < 2 or thing[0] not in ("row", "same", "by") or not is_right_term(thing[-1], many):
        return False
    return len(thing) == 2 if thing[0] != "by" else len(thing) == 3 and is_int(thing[1]) and thing[1] >= 1


def code_is_right(program, thing):
    """Whether any object is a code for a program."""
    if not is_row(thing) or len(thing) != 2 or not is_int(thing[0]) or not is_row(thing[1]):
        return False
    many, lines = thing
    if many < len(program.inputs()) or len(lines) == 0:
        return False
    for at, line in enumerate(lines):
        if not is_row(line) or len(line) == 0 or type(line[0]) is not str:
            return False
        kind, more = line[0], line[1:]
        if kind == "set" and len(more) == 3:
            right = is_name(more[0]) and more[0] in [f"r{number}" for number in range(min(many, 2000))]
            right = right and is_int(more[1]) and more[1] >= 1 and is_right_term(more[2], many)
        elif kind == "jump" and len(more) == 2:
            right = is_right_test(more[0], many) and is_int(more[1]) and at < more[1] < len(lines)
        elif kind == "go" and len(more) == 1:
            right = is_int(more[0]) and at < more[0] < len(lines)
        elif kind == "give" and len(more) == 1:
            right = is_row(more[0]) and len(more[0]) == len(program.outputs()) and all(is_right_term(term, many) for term in more[0])
        else:
            right = kind == "none" and more in [(), []]
        if not right:
            return False
    return lines[-1][0] in ("give", "none")


def play_by_hand(program, code, given):
    """The pair of the answer of a code and how many lines are done."""
    held = {f"r{number}": 0 for number in range(code[0])}
    held.update({f"r{at}": given[name] for at, name in enumerate(program.inputs())})
    at, done = 0, 1
    while code[1][at][0] not in ("give", "none"):
        line = code[1][at]
        behind = at + 1
        if line[0] == "set":
            held[line[1]] = value_by_hand(line[3], held) // line[2]
        elif line[0] == "go":
            behind = line[1]
        elif not is_so_by_hand(line[1], held):
            behind = line[2]
        at, done = behind, done + 1
    if code[1][at][0] == "none":
        return None, done
    return {name: value_by_hand(term, held) for name, term in zip(program.outputs(), code[1][at][1])}, done


def statement_by_hand(program, code):
    """The statement of as_program."""
    cells = [f"r{number}" for number in range(code[0])]

    def put(thing, stands):
        # First to names that nobody has, so that none is taken for another one.
        for cell in cells:
            thing = put_by_hand(thing, cell, ({"!" + cell: 1}, 0))
        for cell in cells:
            thing = put_by_hand(thing, "!" + cell, stands[cell])
        return thing

    def go(at, stands, known):
        line = code[1][at]
        if line[0] == "set" and line[2] == 1:
            return go(at + 1, {**stands, line[1]: put(line[3], stands)}, known)
        if line[0] == "set":
            new = [f"s{number}" for number in range(1000) if f"s{number}" not in known + program.outputs()][0]
            return ("let", new, line[2], put(line[3], stands), go(at + 1, {**stands, line[1]: ({new: 1}, 0)}, known + [new]))
        if line[0] == "go":
            return go(line[1], stands, known)
        if line[0] == "jump":
            return ("if", put(line[1], stands), go(at + 1, stands, known), go(line[2], stands, known))
        return ("none",) if line[0] == "none" else ("give", [put(term, stands) for term in line[1]])

    stands = {cell: ({}, 0) for cell in cells}
    stands.update({cell: ({name: 1}, 0) for cell, name in zip(cells, program.inputs())})
    return go(0, stands, program.inputs())


def any_code(chance, program, length):
    """A code for a program at random."""
    many = len(program.inputs()) + chance.randint(0, 3)
    cells = [f"r{number}" for number in range(many)]
    length = max(1, length)
    lines = []
    for at in range(length):
        kinds = ["give", "none"] if at == length - 1 else ["set", "set", "jump", "jump", "go", "give", "none"]
        kind = chance.choice(kinds if cells else [kind for kind in kinds if kind != "set"])
        if kind == "set":
            lines.append(("set", chance.choice(cells), chance.choice([1, 1, 2, 3, 5]), any_term(chance, cells)))
        elif kind == "jump":
            lines.append(("jump", any_test(chance, cells), chance.randint(at + 1, length - 1)))
        elif kind == "go":
            lines.append(("go", chance.randint(at + 1, length - 1)))
        else:
            lines.append(("none",) if kind == "none" else ("give", [any_term(chance, cells) for _ in program.outputs()]))
    return (many, lines)


class IsCode(unittest.TestCase):
    def test_codes_with_something_otherwise(self):
        right = 0
        for program, code in [(program_p(), CODE_P), (program_q(), CODE), (program_q(), swapped(CODE)), (program_q(), code_of(program_q())[0])]:
            self.assertIs(is_code(program=program, thing=code), True)
            for other in bent(code):
                expected = code_is_right(program, other)
                right += expected
                self.assertIs(is_code(program, other), expected, other)
        self.assertGreater(right, 100)
        for chance in chances(20, 61):
            program = any_program(chance, 3)
            code = any_code(chance, program, chance.randint(1, 6))
            self.assertIs(is_code(program, code), True)
            for other in some_bent(code, chance, 80):
                self.assertIs(is_code(program, other), code_is_right(program, other), other)

    def test_each_part_of_each_kind_of_line(self):
        q = program_q()
        for lines, right in [
            ([("none",)], True), ([("give", [({}, 0)])], True), ([], False), ([("give", [])], False), ([("give", [({}, 0)] * 2)], False),
            ([("give", [({"r3": 1}, 0)])], False), ([("give", [({"r2": 1}, 0)])], True), ([("give", [({"r3": 0}, 0)])], True),
            ([("give", [({"a": 1}, 0)])], False), ([("give", [({"r02": 1}, 0)])], False), ([("give", [({"r": 1}, 0)])], False),
            ([("set", "r0", 1, ({}, 0))], False), ([("set", "r0", 1, ({}, 0)), ("none",)], True), ([("set", "r3", 1, ({}, 0)), ("none",)], False),
            ([("set", "r00", 1, ({}, 0)), ("none",)], False), ([("set", "x", 1, ({}, 0)), ("none",)], False), ([("set", ["r0"], 1, ({}, 0)), ("none",)], False),
            ([("set", "r0", 0, ({}, 0)), ("none",)], False), ([("set", "r0", True, ({}, 0)), ("none",)], False), ([("set", "r0", 2, ({"r1": 2, "q": 0}, 0)), ("none",)], True),
            ([("go", 1), ("none",)], True), ([("go", 0), ("none",)], False), ([("go", 2), ("none",)], False), ([("go", True), ("none",)], False), ([("go", -1), ("none",)], False),
            ([("jump", ("row", ({}, 0)), 1), ("none",)], True), ([("jump", ("row", ({}, 0)), 0), ("none",)], False), ([("jump", ("row", ({}, 0)), 2), ("none",)], False),
            ([("jump", ("not", ("row", ({}, 0))), 1), ("none",)], False), ([("jump", ("row", ({"r5": 1}, 0)), 1), ("none",)], False), ([("jump", ("row", ({}, 0)), True), ("none",)], False),
            ([("none",), ("go", 2), ("none",)], True), ([("none",), ("none", 0)], False), ([("none",), ()], False), ([("none",), "none"], False), ([("halt",)], False),
            ([("none",), ("jump", ("by", 2, ({"r0": 1}, 0)), 2)], False), (["none"], False), ([None], False), ([(None,)], False), ([(["none"],)], False), ([["none"]], True),
        ]:
            self.assertIs(is_code(q, (3, lines)), right, lines)
            self.assertIs(is_code(q, [3, tuple(lines)]), right, lines)
            self.assertIs(code_is_right(q, (3, lines)), right, lines)
        for many, right in [(1, True), (0, False), (-1, False), (True, False), (None, False), ("1", False), (10 ** 30, True), (1.0, False)]:
            self.assertIs(is_code(q, (many, [("none",)])), right)
        self.assertIs(is_code(Program([], [], ("none",)), (0, [("give", [])])), True)
        self.assertIs(is_code(Program([], [], ("none",)), (0, [("set", "r0", 1, ({}, 0)), ("none",)])), False)
        self.assertIs(is_code(q, (10 ** 9, [("set", "r9999999", 1, ({}, 0)), ("none",)])), True)
        self.assertIs(is_code(q, (10 ** 9, [("set", "r10000000", 1, ({}, 0)), ("none",)])), False)

    def test_of_any_object(self):
        for thing in objects() + objects_to_refuse() + [(), (1,), (1, None), (1, "none"), (1, {}), (1, [("none",)], 0), [("none",)], wish()]:
            self.assertIs(is_code(program_q(), thing), False)


class Play(unittest.TestCase):
    def test_the_example(self):
        self.assertEqual(play(program_p(), CODE_P, {"a": 1, "b": 0}), {"x": -3, "y": 2})
        self.assertEqual(lines_done(program_p(), CODE_P, {"a": 1, "b": 0}), 2)

    def test_lines_that_nobody_comes_to_and_registers_never_set(self):
        for a, answer, done in [(2, {"x": 1}, 5), (-1, {"x": 0}, 5), (3, {"x": 5}, 4), (-3, None, 4), (-4, None, 5), (-10 ** 15, None, 5)]:
            told = told_again(self, lambda: play(given={"a": a}, code=CODE, program=program_q()))
            self.assertEqual(shape(told), shape(answer), a)
            self.assertEqual(lines_done(given={"a": a}, code=swapped(CODE), program=program_q()), done)
            self.assertEqual(play_by_hand(program_q(), CODE, {"a": a}), (answer, done))

    def test_the_first_line_ends_it(self):
        for line, answer in [(("none",), None), (("give", [({"r0": 3}, -1)]), {"x": 14})]:
            self.assertEqual(play(program_q(), (1, [line]), {"a": 5}), answer)
            self.assertEqual(lines_done(program_q(), (1, [line, ("none",)]), {"a": 5}), 1)
        nothing = Program([], [], ("none",))
        self.assertEqual(play(nothing, (0, [("give", [])]), {}), {})

    def test_as_many_registers_as_can_be(self):
        self.assertEqual(play(program_q(), (10 ** 30, [("give", [({"r999": 1, "r0": 1}, 2)])]), {"a": 5}), {"x": 7})

    def test_at_random(self):
        for chance in chances(300, 62):
            program = any_program(chance, 1)
            code = any_code(chance, program, chance.randint(1, 25))
            for _ in range(4):
                given = {name: chance.choice([chance.randint(-9, 9), chance.randint(-10 ** 15, 10 ** 15)]) for name in program.inputs()}
                answer, done = play_by_hand(program, code, given)
                told = play(program, code, given)
                self.assertEqual(told, answer)
                self.assertEqual(list(told or {}), sorted(told or {}))
                self.assertEqual(shape(lines_done(program, code, given)), shape(done))

    def test_nothing_is_changed(self):
        code, given = swapped(swapped(CODE)), {"a": 5}
        kept = shape(code)
        play(program_q(), code, given)
        as_program(program_q(), code)
        self.assertEqual((shape(code), given), (kept, {"a": 5}))

    def test_errors_in_their_order(self):
        for thing in objects():
            if not isinstance(thing, Program):
                for ask in [play, lines_done]:
                    refused(self, BadProgram, "program", lambda: ask(thing, None, None), thing)
                refused(self, BadProgram, "program", lambda: is_code(thing, None), thing)
                refused(self, BadProgram, "program", lambda: as_program(thing, None), thing)
            for ask in [play, lines_done]:
                refused(self, BadCode, "code", lambda: ask(program_q(), thing, None), thing)
            refused(self, BadCode, "code", lambda: as_program(program_q(), thing), thing)
        for thing in NO_NUMBERS_OF_A:
            for ask in [play, lines_done]:
                refused(self, BadGiven, "given", lambda: ask(program_q(), CODE, thing), thing)


class AsProgram(unittest.TestCase):
    def test_the_example(self):
        give = ("give", [({"a": 2, "s0": 5}, 0), ({"a": -1, "s0": -3}, 0)])
        told = as_program(program_p(), CODE_P)
        self.assertEqual(shape(told.statement()), shape(("let", "s0", 13, ({"a": -5, "b": 1}, 0), give)))
        self.assertEqual((told.inputs(), told.outputs()), (["a", "b"], ["x", "y"]))
        self.assertIsNotNone(alike_papers(told, program_p()))
        self.assertIsNotNone(alike_papers(as_program(program_q(), code_of(program_q())[0]), program_q()))

    def test_each_line(self):
        left = ("let", "s0", 3, ({"a": 1}, 1), ("if", ("row", ({"s0": 1}, 0)), ("give", [({"s0": 1}, 0)]), ("none",)))
        right = ("if", ("row", ({"a": 2}, -1)), ("give", [({"a": 2}, -1)]), ("none",))
        told = as_program(code=swapped(CODE), program=program_q())
        self.assertEqual(shape(told.statement()), shape(("if", ("by", 3, ({"a": 1}, 1)), left, right)))

    def test_new_names(self):
        asked = Program(["s1", "a"], ["s0", "s3"], ("none",))
        lines = [
            ("set", "r2", 2, ({"r0": 1}, 0)), ("jump", ("row", ({"r2": 1}, 0)), 4), ("set", "r0", 3, ({"r2": 1, "r1": 1}, 0)),
            ("give", [({"r0": 1}, 0), ({"r2": 1}, 0)]), ("set", "r2", 5, ({"r2": 2}, 0)), ("set", "r2", 5, ({"r2": 2}, 0)), ("give", [({"r0": 1}, 0), ({"r2": 1}, 0)]),
        ]
        told = as_program(asked, (3, lines))
        one = ("let", "s4", 3, ({"a": 1, "s2": 1}, 0), ("give", [({"s4": 1}, 0), ({"s2": 1}, 0)]))
        two = ("let", "s4", 5, ({"s2": 2}, 0), ("let", "s5", 5, ({"s4": 2}, 0), ("give", [({"s1": 1}, 0), ({"s5": 1}, 0)])))
        self.assertEqual(shape(told.statement()), shape(("let", "s2", 2, ({"s1": 1}, 0), ("if", ("row", ({"s2": 1}, 0)), one, two))))

    def test_at_random(self):
        for chance in chances(200, 63):
            program = any_program(chance, 1)
            code = any_code(chance, program, chance.randint(1, 12))
            told = as_program(program, code)
            self.assertEqual((told.inputs(), told.outputs()), (program.inputs(), program.outputs()))
            self.assertEqual(shape(told.statement()), shape(statement_by_hand(program, code)))
            self.assertEqual(told, as_program(program, swapped(code)))
            for _ in range(5):
                given = {name: chance.choice([chance.randint(-9, 9), chance.randint(-10 ** 9, 10 ** 9)]) for name in program.inputs()}
                self.assertEqual(run_by_hand(told, given)[0], play(program, code, given))

    def test_alike_or_not(self):
        program = program_q()
        code = code_of(program)[0]
        self.assertIsNotNone(alike_papers(as_program(program, code), program))
        for at, line in enumerate(code[1]):
            if line[0] == "set":
                lines = code[1][:at] + [(*line[:3], (line[3][0], line[3][1] + 3))] + code[1][at + 1:]
                given = unlike_at(as_program(program, (code[0], lines)), program)
                self.assertNotEqual(play(program, (code[0], lines), given), run_by_hand(program, given)[0])

    def test_long_codes(self):
        lines = [("set", "r0", 2, ({"r0": 3}, 1)) for _ in range(150)] + [("jump", ("row", ({"r0": 1}, -at)), 299) for at in range(149)] + [("give", [({"r0": 1}, 0)])]
        told = as_program(program_q(), (1, lines))
        for a in [-5, 0, 7]:
            self.assertEqual(run_by_hand(told, {"a": a})[0], play(program_q(), (1, lines), {"a": a}))
