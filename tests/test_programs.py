"""[12.1] to [12.6]: statements, names, programs, answers, steps."""

import unittest

from outofwishes.errors import BadGiven, BadInputs, BadOutputs, BadPlace, BadProgram, BadStatement
from outofwishes.programs import (
    Program, is_statement, known_at, most_by_text, places, run, statement_at, steps, trail,
)
from outofwishes.wishes import System
from tests.samples import (
    BAD_NAMES, NAMES, NO_NAMES, NO_NUMBERS_OF_A, any_program, chances, deep, holders, objects, program_p, program_q,
    shape, spoil, swapped, wish,
)

NONE = ("none",)
ZERO = ({}, 0)
A = ({"a": 1}, 0)
GIVE = ("give", [ZERO])


def let(name, inner, term=ZERO, number=1):
    return ("let", name, number, term, inner)


def first(name, inner, other, tests=(), count=2):
    return ("first", name, count, list(tests), inner, other)


def give(name):
    return ("give", [({name: 1}, 0)])


def needs(name):
    return ("row", ({name: 1}, 0))


class IsStatement(unittest.TestCase):
    def test_each_kind(self):
        for thing in [
            NONE, GIVE, ["give", ([{"a": 3, "zz": 0}, 1],)], let("p", give("p"), A, 13), ["let", "p", 10 ** 20, [{"a": 1}, 0], ["none"]],
            ("most", "m", [A], give("m")), ["most", "m", (A, ZERO), NONE], ("if", needs("a"), GIVE, NONE), ["if", ["by", 2, [{}, 1]], NONE, NONE],
            first("k", give("k"), GIVE), first("k", NONE, NONE, [needs("k"), needs("a")], 1), ["first", "k", 1000, (), NONE, NONE],
        ]:
            self.assertIs(is_statement(["a"], ["x"], thing), True, thing)
            self.assertIs(is_statement(inputs=("a",), outputs=("x",), thing=swapped(thing)), True, thing)

    def test_any_object(self):
        for thing in objects() + [wish(), program_p(), needs("a"), ("give",), ("give", [ZERO], 0), ("none", 0), ("none", []), "none", {"none": 1}]:
            self.assertIs(is_statement(["a"], ["x"], thing), False, thing)
            self.assertIs(is_statement(["a"], ["x"], let("p", thing)), False, thing)
            self.assertIs(is_statement(["a"], ["x"], ("most", "p", [A], thing)), False, thing)
            self.assertIs(is_statement(["a"], ["x"], ("if", needs("a"), NONE, thing)), False, thing)
            self.assertIs(is_statement(["a"], ["x"], ("if", needs("a"), thing, NONE)), False, thing)
            self.assertIs(is_statement(["a"], ["x"], first("k", NONE, thing)), False, thing)
            self.assertIs(is_statement(["a"], ["x"], first("k", thing, NONE)), False, thing)
            self.assertIs(is_statement(["a"], ["x"], ("give", thing)), False, thing)

    def test_parts(self):
        wrong = [
            ("give", []), ("give", [ZERO, ZERO]), ("give", ZERO), ("give", [A, None][1:]), ("give", [({"a": True}, 0)]), ("give", {0: ZERO}),
            ("let", "p", 0, A, NONE), ("let", "p", -1, A, NONE), ("let", "p", True, A, NONE), ("let", "p", "1", A, NONE), ("let", "p", A, NONE),
            ("let", "p", 1, needs("a"), NONE), ("let", "p", 1, [A], NONE), ("let", "p", 1, A), ("let", "p", 1, A, NONE, NONE), ("let", 1, 1, A, NONE),
            ("let", None, 1, A, NONE), ("let", [], 1, A, NONE), ("let", {}, 1, A, NONE), ("let", 1, "p", A, NONE),
            ("most", "m", [], NONE), ("most", "m", (), NONE), ("most", "m", A, NONE), ("most", "m", [needs("a")], NONE), ("most", "m", [A], NONE, NONE),
            ("most", "m", "a", NONE), ("most", "m", [A, 0], NONE), ("if", A, NONE, NONE), ("if", ("not", needs("a")), NONE, NONE), ("if", needs("a"), NONE),
            ("if", [needs("a")], NONE, NONE), ("if", ("all", []), NONE, NONE), ("if", needs("a"), NONE, NONE, NONE), ("if", ("by", 0, A), NONE, NONE),
            ("if", ("by", True, A), NONE, NONE), ("if", ("row", 1, A), NONE, NONE), ("if", ("by", A), NONE, NONE), ("if", ("not", A), NONE, NONE),
            ("first", "k", 2, [("by", -3, A)], NONE, NONE), ("first", "k", 2, [("rows", A)], NONE, NONE),
            ("first", "k", 0, [], NONE, NONE), ("first", "k", False, [], NONE, NONE), ("first", "k", 2, needs("a"), NONE, NONE),
            ("first", "k", 2, [("any", [])], NONE, NONE), ("first", "k", 2, "", NONE, NONE), ("first", "k", 2, None, NONE, NONE), ("first", "k", 2, [], NONE),
            ("first", "k", 2, [needs("a"), A], NONE, NONE), ("last", "k", 2, [], NONE, NONE), ("Give", [ZERO]), ("row", A), (["give"], [ZERO]), (None, [ZERO]),
        ]
        for thing in wrong:
            self.assertIs(is_statement(["a"], ["x"], thing), False, thing)
            self.assertIs(is_statement(["a"], ["x"], deep(thing, 12, lambda one: ("if", needs("a"), NONE, one))), False, thing)
            with self.assertRaises(BadStatement) as caught:
                Program(["a"], ["x"], ("if", needs("a"), let("q", thing), thing))
            self.assertEqual(shape(caught.exception.place), shape([0, 0]), thing)

    def test_as_many_terms_as_outputs(self):
        for many in range(4):
            for terms in range(4):
                self.assertIs(is_statement([], ["x", "y", "z"][:many], ("give", [ZERO] * terms)), many == terms)

    def test_errors_ahead(self):
        for names, index in BAD_NAMES:
            with self.assertRaises(BadInputs) as caught:
                is_statement(names, None, None)
            self.assertEqual(caught.exception.index, index)
            with self.assertRaises(BadOutputs) as caught:
                is_statement(["x"], names, None)
            self.assertEqual(caught.exception.index, index)


class Names(unittest.TestCase):
    def known(self, thing, name, inputs=("a",)):
        return is_statement(inputs, ["x"], thing(name))

    def test_known(self):
        for name, known in [("a", True), ("b", True), ("p", False), ("x", False), ("zz", False)]:
            for thing in [
                give, lambda name: let("p", NONE, ({name: 1}, 0)), lambda name: ("most", "p", [({name: 1}, 0)], NONE),
                lambda name: ("if", needs(name), NONE, NONE), lambda name: first("p", NONE, give(name)), lambda name: let("q", give(name)),
                lambda name: ("if", needs("a"), let("p", NONE), give(name)), lambda name: first("q", give(name), NONE),
            ]:
                self.assertIs(self.known(thing, name, ("b", "a")), known)

    def test_set_above(self):
        for wrap in [let, lambda name, inner: ("most", name, [A], inner), lambda name, inner: first(name, inner, NONE)]:
            for name, known in [("a", True), ("p", True), ("q", True), ("r", False)]:
                self.assertIs(self.known(lambda one: wrap("p", wrap("q", give(one))), name), known)
                self.assertIs(self.known(lambda one: wrap("p", wrap("q", first("k", NONE, NONE, [needs(one)]))), name), known)

    def test_own_name(self):
        self.assertIs(self.known(lambda name: first("k", NONE, NONE, [needs("a"), needs(name)]), "k"), True)
        self.assertIs(self.known(lambda name: first("k", NONE, give(name)), "k"), False)
        self.assertIs(self.known(lambda name: first("k", give(name), NONE), "k"), True)
        self.assertIs(self.known(lambda name: let("k", NONE, ({name: 1}, 0)), "k"), False)
        self.assertIs(self.known(lambda name: ("most", "k", [A, ({name: 1}, 0)], NONE), "k"), False)

    def test_coefficient_0_needs_none(self):
        self.assertIs(self.known(lambda name: ("give", [({name: 0}, 0)]), "p"), True)
        self.assertIs(self.known(lambda name: first("k", NONE, NONE, [("by", 2, ({name: 0, "k": 1}, 0))]), "p"), True)
        self.assertIs(self.known(lambda name: ("give", [({name: 0}, 0)]), "of"), False)

    def test_names_that_are_set(self):
        for wrap in [let, lambda name, inner: ("most", name, [A], inner), lambda name, inner: first(name, inner, NONE)]:
            for name in ["a", "x", "q"]:
                self.assertIs(self.known(lambda one: let("q", wrap(one, NONE)), name), False)
                with self.assertRaises(BadStatement) as caught:
                    Program(["a"], ["x"], let("q", wrap(name, None)))
                self.assertEqual(caught.exception.place, [0])
            for name in NAMES[1:]:
                self.assertIs(self.known(lambda one: let("q", wrap(one, give(one))), name), True)
            for name in NO_NAMES + [1, None, True, [], {}, ("p",)]:
                self.assertIs(is_statement(["a"], ["x"], wrap(name, NONE)), False, name)

    def test_set_beside(self):
        self.assertTrue(is_statement([], [], ("if", ("row", ZERO), let("p", NONE), let("p", NONE))))
        self.assertTrue(is_statement([], [], first("p", NONE, let("p", NONE))))
        self.assertTrue(is_statement([], [], first("p", NONE, first("p", NONE, NONE))))
        self.assertFalse(is_statement([], [], first("p", first("p", NONE, NONE), NONE)))
        self.assertFalse(is_statement([], [], let("p", first("q", NONE, let("p", NONE)))))


class MakingPrograms(unittest.TestCase):
    def test_what_is_told(self):
        statement = ["first", "k", 3, (["by", 3, [{"k": 1, "a": 1, "z": 0}, 0]],), ["give", ([{"k": 2, "a": 0}, 1],)], ["none"]]
        made = Program(("b", "a"), ("x",), statement)
        self.assertEqual(shape(made.inputs()), shape(["b", "a"]))
        self.assertEqual(shape(made.outputs()), shape(["x"]))
        told = ("first", "k", 3, [("by", 3, ({"a": 1, "k": 1}, 0))], ("give", [({"k": 2}, 1)]), ("none",))
        self.assertEqual(shape(made.statement()), shape(told))
        self.assertEqual(Program(statement=NONE, inputs=[], outputs=()).outputs(), [])
        for program in [program_p(), program_q()]:
            self.assertEqual(shape(Program(program.inputs(), program.outputs(), swapped(program.statement())).statement()), shape(program.statement()))

    def test_bad_inputs_then_outputs_then_statement(self):
        for names, index in BAD_NAMES:
            with self.assertRaises(BadInputs) as caught:
                Program(names, None, None)
            self.assertEqual(shape(caught.exception.index), shape(index))
            with self.assertRaises(BadOutputs) as caught:
                Program(["x"], names, None)
            self.assertEqual(shape(caught.exception.index), shape(index))
        with self.assertRaises(BadOutputs) as caught:
            Program(["a", "b"], ["x", "b", "x"], None)
        self.assertEqual(caught.exception.index, 1)

    def test_the_first_place_by_itself(self):
        for statement, place in [
            (None, []), (let("a", None), []), (let("p", None), [0]), (let("p", let("p", None)), [0]), (let("p", let("q", None)), [0, 0]),
            (("if", needs("a"), None, None), [0]), (("if", needs("a"), NONE, None), [1]), (("if", needs("z"), None, None), []),
            (first("k", first("q", NONE, give("q")), None), [0, 1]), (first("k", give("k"), give("k")), [1]),
            (("if", needs("a"), let("p", give("p")), let("q", give("p"))), [1, 0]), (("most", "m", [A], ("give", [])), [0]),
            (first("k", ("if", needs("k"), give("k"), first("k", None, None)), None), [0, 1]),
            (deep(None, 60, lambda one: ("if", needs("a"), NONE, one)), [1] * 60), (("none", None), []), (let("p", ("none", None)), [0]),
        ]:
            with self.assertRaises(BadStatement) as caught:
                Program(["a"], ["x"], statement)
            self.assertEqual(shape(caught.exception.place), shape(place), statement)
            self.assertIs(is_statement(["a"], ["x"], statement), False)

    def test_equality(self):
        self.assertEqual(program_p(), program_p())
        self.assertIs(program_p() == program_p(), True)
        self.assertIs(program_p() != program_p(), False)
        self.assertEqual(Program(["a"], [], ("if", ("row", ({"a": 1, "q": 0}, 0)), NONE, NONE)), Program(("a",), (), ["if", needs("a"), NONE, ["none"]]))
        for other in [
            program_q(), Program(["b", "a"], ["x", "y"], program_p().statement()), Program(["a", "b"], ["y", "x"], program_p().statement()),
            Program(["a", "b"], ["x", "y"], NONE), wish(), System([], []), None, program_p().statement(), 0,
        ]:
            self.assertIs(program_p() == other, False)
            self.assertIs(program_p() != other, True)


class Places(unittest.TestCase):
    def test_the_example(self):
        self.assertEqual(shape(places(program_q())), shape([[], [0], [0, 0], [0, 0, 0], [0, 1], [1]]))
        self.assertEqual(places(program=program_p()), [[], [0]])

    def test_statement_at(self):
        program = program_q()
        whole = program.statement()
        for place, told in [
            ([], whole), ([0], whole[2]), ([0, 0], whole[2][4]), ((0, 0, 0), whole[2][4][4]), ([0, 1], NONE), ((1,), NONE), ((), whole),
        ]:
            self.assertEqual(shape(statement_at(program, place)), shape(told))
            self.assertEqual(shape(statement_at(place=place, program=program)), shape(told))

    def test_known_at(self):
        program = Program(["z", "b"], ["x"], let("q", first("c", ("most", "a", [ZERO], NONE), let("c", NONE))))
        for place, names in [
            ([], ["z", "b"]), ([0], ["z", "b", "q"]), ([0, 0], ["z", "b", "q", "c"]), ((0, 0, 0), ["z", "b", "q", "c", "a"]),
            ([0, 1], ["z", "b", "q"]), ([0, 1, 0], ["z", "b", "q", "c"]),
        ]:
            self.assertEqual(shape(known_at(program, place)), shape(names))
            self.assertEqual(known_at(place=place, program=program), names)

    def test_bad_place(self):
        for place in objects() + [[2], [-1], [0, 0, 0, 0], [1, 0], [0, 2], [0, -1], [True], [False], [0, False], [None], ["0"], [[0]], [0, 0, 1], {0: 0}, "0"]:
            if place not in [(), []]:
                for asked in [statement_at, known_at]:
                    with self.assertRaises(BadPlace) as caught:
                        asked(program_q(), place)
                    self.assertIs(caught.exception.place, place)

    def test_bad_program(self):
        for thing in objects() + [program_p().statement()]:
            if not isinstance(thing, Program):
                for asked in [places, most_by_text, lambda one: statement_at(one, None), lambda one: known_at(one, None),
                              lambda one: run(one, None), lambda one: steps(one, None), lambda one: trail(one, None)]:
                    with self.assertRaises(BadProgram) as caught:
                        asked(thing)
                    self.assertIs(caught.exception.program, thing)

    def test_at_random(self):
        for chance in chances(100):
            program = any_program(chance)
            for place in places(program):
                there = statement_at(program, place)
                known = known_at(program, place)
                self.assertIs(is_statement(known, program.outputs(), there), True)
                self.assertEqual(known[:len(program.inputs())], program.inputs())
            self.assertEqual(sorted(places(program)), places(program))


def by_hand(inputs, statement, numbers, outputs, place=()):
    """The pair of an answer and the list of triples of a place, numbers and own steps, told in another way."""
    def at(term):
        return term[1] + sum(number * numbers[name] for name, number in term[0].items())

    def so(test, numbers):
        value = test[-1][1] + sum(number * numbers[name] for name, number in test[-1][0].items())
        return value >= 0 if test[0] == "row" else value == 0 if test[0] == "same" else value % test[1] == 0

    kind, here = statement[0], (list(place), dict(numbers))
    if kind == "give":
        return dict(zip(outputs, [at(term) for term in statement[1]])), [here + (1,)]
    if kind == "none":
        return None, [here + (1,)]
    turn, own, more = 0, 1, dict(numbers)
    if kind == "let":
        more[statement[1]], inner = at(statement[3]) // statement[2], statement[4]
    elif kind == "most":
        more[statement[1]], inner = sorted(at(term) for term in statement[2])[-1], statement[3]
    elif kind == "if":
        turn = 0 if so(statement[1], numbers) else 1
        inner = statement[2 + turn]
    else:
        found = [k for k in range(statement[2]) if all(so(test, {**numbers, statement[1]: k}) for test in statement[3])]
        turn, own = (0, found[0] + 1) if found else (1, statement[2])
        inner = statement[4 + turn]
        if found:
            more[statement[1]] = found[0]
    answer, behind = by_hand(inputs, inner, more, outputs, place + (turn,))
    return answer, [here + (own,)] + behind


class Answers(unittest.TestCase):
    def test_the_example(self):
        given = {"a": 1, "b": 0}
        self.assertEqual(shape(run(program_p(), given)), shape({"x": -3, "y": 2}))
        self.assertEqual(steps(program_p(), given), 2)
        self.assertIs(wish().does(given, run(program_p(), given)), True)
        self.assertEqual(trail(program_p(), given), [([], given), ([0], {"a": 1, "b": 0, "p": -1})])
        q = program_q()
        self.assertEqual(run(q, {"a": 4}), {"x": 2})
        self.assertEqual(steps(q, {"a": 4}), 6)
        self.assertEqual(trail(q, {"a": 4}), [([], {"a": 4}), ([0], {"a": 4}), ([0, 0], {"a": 4, "k": 2}), ([0, 0, 0], {"a": 4, "k": 2, "q": 2})])
        self.assertIsNone(run(q, {"a": -1}))
        self.assertEqual(shape(trail(q, {"a": -1})), shape([([], {"a": -1}), ([1], {"a": -1})]))
        self.assertEqual(steps(q, {"a": -1}), 2)
        self.assertEqual(most_by_text(q), (6, [0, 0, 0]))

    def test_let_rounds_down(self):
        for number in range(1, 6):
            program = Program(["a"], ["x"], let("p", give("p"), ({"a": 1}, -1), number))
            for a in range(-12, 13):
                self.assertEqual(run(program, {"a": a})["x"], (a - 1) // number)
                self.assertTrue(0 <= a - 1 - number * run(program, {"a": a})["x"] < number)
        great = Program(["a"], ["x"], let("p", give("p"), ({"a": -1}, 0), 10 ** 15))
        self.assertEqual(run(great, {"a": 10 ** 30 + 1}), {"x": -(10 ** 15) - 1})

    def test_most(self):
        program = Program(["a", "b"], ["x"], ("most", "m", [({"a": 1}, 0), ({"b": 1}, 0), ({"a": -1}, -5)], give("m")))
        for a in range(-8, 9):
            for b in range(-8, 9):
                self.assertEqual(run(program, {"a": a, "b": b}), {"x": max(a, b, -a - 5)})
        self.assertEqual(run(Program(["a"], ["x"], ("most", "m", [A], give("m"))), {"a": -10 ** 20}), {"x": -10 ** 20})

    def test_if(self):
        for test, so in [(needs("a"), lambda a: a >= 0), (("same", ({"a": 1}, -2)), lambda a: a == 2), (("by", 3, ({"a": 1}, 1)), lambda a: (a + 1) % 3 == 0)]:
            program = Program(["a"], ["x"], ("if", test, ("give", [({}, 1)]), NONE))
            for a in range(-7, 8):
                self.assertEqual(run(program, {"a": a}), {"x": 1} if so(a) else None)

    def test_first(self):
        program = Program(["a"], ["x"], first("k", give("k"), ("give", [({"a": 1}, 0)]), [("row", ({"k": 2, "a": -1}, 0)), ("by", 2, ({"k": 1}, 0))], 5))
        for a, x, many in [(-9, 0, 2), (0, 0, 2), (1, 2, 4), (4, 2, 4), (5, 4, 6), (8, 4, 6), (9, 9, 6), (10 ** 15, 10 ** 15, 6)]:
            self.assertEqual(run(program, {"a": a}), {"x": x})
            self.assertEqual(steps(program, {"a": a}), many)
        self.assertEqual(trail(program, {"a": 9}), [([], {"a": 9}), ([1], {"a": 9})])
        self.assertEqual(trail(program, {"a": 5}), [([], {"a": 5}), ([0], {"a": 5, "k": 4})])

    def test_first_without_tests(self):
        program = Program([], ["x"], first("k", give("k"), NONE, [], 1000))
        self.assertEqual((run(program, {}), steps(program, {}), most_by_text(program)), ({"x": 0}, 2, (1001, [0])))

    def test_first_that_finds_nothing(self):
        program = Program([], ["x"], first("k", give("k"), GIVE, [("row", ({}, -1))], 1000))
        self.assertEqual((run(program, {}), steps(program, {}), trail(program, {})), ({"x": 0}, 1001, [([], {}), ([1], {})]))

    def test_no_outputs(self):
        self.assertEqual(run(Program(["a"], [], ("give", [])), {"a": 1}), {})
        self.assertIsNone(run(Program(["a"], [], NONE), {"a": 1}))

    def test_dicts_by_ascending_names(self):
        program = Program(["z", "b"], ["y", "c"], let("a", ("give", [({}, 1), ({}, 2)])))
        self.assertEqual(shape(run(program, {"z": 1, "b": 2})), shape({"c": 2, "y": 1}))
        self.assertEqual(shape(trail(program, {"z": 1, "b": 2})), shape([([], {"b": 2, "z": 1}), ([0], {"a": 0, "b": 2, "z": 1})]))

    def test_bad_given(self):
        program = Program(["a"], [], NONE)
        for given in NO_NUMBERS_OF_A:
            for asked in [run, steps, trail]:
                with self.assertRaises(BadGiven) as caught:
                    asked(program, given)
                self.assertIs(caught.exception.given, given)
        self.assertIsNone(run(given={"a": 1}, program=program))
        self.assertEqual(steps(given={"a": 1}, program=program), 1)
        self.assertEqual(trail(given={"a": 1}, program=program), [([], {"a": 1})])

    def test_at_random(self):
        for chance in chances(300):
            program = any_program(chance)
            for _ in range(6):
                great = chance.choice([5, 40, 10 ** 15])
                given = {name: chance.randint(-great, great) for name in program.inputs()}
                answer, way = by_hand(program.inputs(), program.statement(), given, program.outputs())
                self.assertEqual(run(program, given), answer)
                self.assertEqual(trail(program, given), [(place, numbers) for place, numbers, _ in way])
                self.assertEqual(steps(program, given), sum(own for _, _, own in way))
                self.assertLessEqual(steps(program, given), most_by_text(program)[0])
                for place, numbers in trail(program, given):
                    self.assertEqual(list(numbers), sorted(known_at(program, place)))


class ByTheText(unittest.TestCase):
    def test_first_place_of_several(self):
        for statement, told in [
            (NONE, (1, [])), (("if", needs("a"), NONE, GIVE), (2, [0])), (("if", needs("a"), NONE, let("p", GIVE)), (3, [1, 0])),
            (("if", needs("a"), let("p", GIVE), let("p", NONE)), (3, [0, 0])), (first("k", NONE, GIVE, [], 7), (8, [0])),
            (first("k", NONE, ("most", "m", [A], GIVE), [], 7), (9, [1, 0])), (("if", needs("a"), first("k", NONE, NONE, [], 3), first("k", NONE, NONE, [], 4)), (6, [1, 0])),
            (("if", needs("a"), let("p", let("q", NONE)), first("k", NONE, NONE, [], 2)), (4, [0, 0, 0])),
            (("if", needs("a"), let("p", let("q", NONE)), first("k", NONE, let("q", NONE), [], 2)), (5, [1, 1, 0])),
            (first("k", first("l", NONE, NONE, [], 1000), NONE, [], 1000), (2001, [0, 0])),
        ]:
            self.assertEqual(shape(most_by_text(program=Program(["a"], ["x"], statement))), shape(told), statement)

    def test_at_random(self):
        for chance in chances(200):
            program = any_program(chance)
            own = {tuple(place): statement_at(program, place) for place in places(program)}
            ends = {}
            for place in places(program):
                if own[tuple(place)][0] in ["give", "none"]:
                    way = [own[tuple(place[:many])] for many in range(len(place) + 1)]
                    ends[tuple(place)] = sum(there[2] if there[0] == "first" else 1 for there in way)
            most, place = most_by_text(program)
            self.assertEqual(most, max(ends.values()))
            self.assertEqual(tuple(place), [end for end in ends if ends[end] == most][0])


class Changes(unittest.TestCase):
    def test_what_is_passed_may_change_later(self):
        inputs, outputs, statement = ["a"], ["x"], swapped(swapped(program_q().statement()))
        made = Program(inputs, outputs, statement)
        for thing in [inputs, outputs, statement]:
            spoil(thing)
        self.assertEqual(made, program_q())
        given = {"a": 4}
        told = trail(made, given)
        given["a"] = 5
        self.assertEqual(told[0], ([], {"a": 4}))

    def test_what_is_told_may_change_later(self):
        made, given = program_q(), {"a": 4}
        for tell in [
            made.inputs, made.outputs, made.statement, lambda: places(made), lambda: statement_at(made, [0]), lambda: known_at(made, [0]),
            lambda: known_at(made, []), lambda: run(made, given), lambda: trail(made, given), lambda: most_by_text(made),
        ]:
            before = shape(tell())
            told = tell()
            held = holders(told)
            self.assertEqual(len({id(one) for one in held}), len(held))
            spoil(told)
            self.assertEqual(shape(tell()), before)
        self.assertEqual((made, given), (program_q(), {"a": 4}))

    def test_no_argument_is_changed(self):
        inputs, outputs, statement, given = ["b", "a"], ["y"], swapped(let("p", give("p"))), {"b": 1, "a": 2}
        kept = shape([inputs, outputs, statement, given])
        program = Program(inputs, outputs, statement)
        run(program, given)
        trail(program, given)
        is_statement(inputs, outputs, statement)
        self.assertEqual(shape([inputs, outputs, statement, given]), kept)
        place = [0]
        statement_at(program, place)
        self.assertEqual(place, [0])

    def test_sixty_deep(self):
        inner = ("give", [({"n59": 1}, 0)])
        for number in reversed(range(60)):
            inner = let(f"n{number}", inner, ({f"n{number - 1}" if number else "a": 1}, 1))
        program = Program(["a"], ["x"], inner)
        self.assertEqual(run(program, {"a": -3}), {"x": 57})
        self.assertEqual(steps(program, {"a": -3}), 61)
        self.assertEqual(most_by_text(program), (61, [0] * 60))
        self.assertEqual(known_at(program, [0] * 60), ["a"] + [f"n{number}" for number in range(60)])
