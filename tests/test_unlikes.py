"""[15.3]: programs that are unlike at some inputs, or alike, with papers."""

import unittest

from outofwishes.errors import BadProgram, UnlikeNames
from outofwishes.programs import Program
from outofwishes.programtexts import program_text, read_program
from outofwishes.unlikes import alike_papers, unlike_at, unlike_ways
from outofwishes.ways import ways
from tests.checks import (
    are_numbers, figures, paper_flaw, put_by_hand, refused, run_by_hand, told_again, told_by_hand, told_system, ways_by_hand,
)
from tests.samples import any_statement, chances, objects, program_p, program_q, shape, spoil, swapped

THIRD = "of a give x by if a >= 0 {{ let q = a + {} over 3; give q }} else {{ none }}"


def program_r():
    """R of [15.4]."""
    let = ("let", "q", 3, ({"a": 1}, 2), ("give", [({"q": 1}, 0)]))
    return Program(["a"], ["x"], ("if", ("row", ({"a": 1}, 0)), let, ("none",)))


def whole_ways(program):
    """The ways to a give or a none, in the order of ways, by hand."""
    found = [one for those in ways_by_hand(program).values() for one in those if one[3][0] in ("give", "none")]
    told = [told_system(system) for system, _, _ in ways(program)]
    return sorted(found, key=lambda one: told.index(told_by_hand(one[0], one[1])))


def unlike_by_hand(program, other):
    """The told systems of unlike_ways."""
    found = []
    many = len(program.inputs())
    for names, bodies, _, end in whole_ways(program):
        for latter, more, _, last in whole_ways(other):
            if end[0] == last[0] == "none":
                continue
            known, said, terms = list(names), [*more], [*(last[1] if last[0] == "give" else [])]
            for at, name in enumerate(latter[many:]):
                # First to a name that no program has, so that none is taken for another one.
                said = [put_by_hand(body, name, ({f"!{at}": 1}, 0)) for body in said]
                terms = [put_by_hand(term, name, ({f"!{at}": 1}, 0)) for term in terms]
            for at in range(len(latter) - many):
                new = [f"z{number}" for number in range(100) if f"z{number}" not in known][0]
                known.append(new)
                said = [put_by_hand(body, f"!{at}", ({new: 1}, 0)) for body in said]
                terms = [put_by_hand(term, f"!{at}", ({new: 1}, 0)) for term in terms]
            if end[0] == last[0] == "give":
                sames = []
                for one, two in zip(end[1], terms):
                    both = put_by_hand(({**one[0], "!": 1}, one[1]), "!", ({name: -part for name, part in two[0].items()}, -two[1]))
                    sames.append(("same", both))
                said.append(("not", ("all", sames)))
            found.append(told_by_hand(known, list(bodies) + said))
    return found


class LookedThrough(unittest.TestCase):
    def look_through(self, program, other):
        """Inputs or papers of two programs, looked through; told is whether they are alike."""
        systems = unlike_ways(program, other)
        given = told_again(self, lambda: unlike_at(program, other))
        papers = told_again(self, lambda: alike_papers(program, other))
        self.assertIsNot(given is None, papers is None)
        self.assertLess(figures((given, papers)), 1000)
        if given is not None:
            self.assertTrue(are_numbers(given, program.inputs()))
            self.assertEqual(list(given), sorted(given))
            self.assertNotEqual(run_by_hand(program, given)[0], run_by_hand(other, given)[0])
            return False
        self.assertIs(type(papers), list)
        self.assertEqual(len(papers), len(systems))
        for system, paper in zip(systems, papers):
            self.assertIsNone(paper_flaw(system, paper))
        return True


class TheExample(LookedThrough):
    def test_q_and_r(self):
        self.assertIs(self.look_through(program_q(), program_r()), True)
        self.assertIs(self.look_through(program_r(), program_q()), True)
        self.assertEqual(len(alike_papers(program_q(), program_r())), 8)
        other = read_program(THIRD.format(1))
        self.assertIs(self.look_through(program_q(), other), False)
        self.assertEqual([run_by_hand(one, {"a": 1})[0] for one in [program_q(), other]], [{"x": 1}, {"x": 0}])
        self.assertEqual(unlike_at(program_q(), other)["a"] % 3, 1)


class Systems(LookedThrough):
    def test_names_called_anew(self):
        former = read_program("of a give x by let z0 = a over 2; let z2 = z0 over 3; give z2")
        latter = read_program("of a give x by let z1 = a over 3; let z0 = z1 + a over 4; let k = z0 - 2 * z1 over 5; give k - z0")
        (system,) = unlike_ways(former, latter)
        self.assertEqual(system.names(), ["a", "z0", "z2", "z1", "z3", "z4"])
        rows = [
            ({"a": 1, "z0": -2}, 0), ({"a": -1, "z0": 2}, 1), ({"z0": 1, "z2": -3}, 0), ({"z0": -1, "z2": 3}, 2),
            ({"a": 1, "z1": -3}, 0), ({"a": -1, "z1": 3}, 2), ({"a": 1, "z1": 1, "z3": -4}, 0), ({"a": -1, "z1": -1, "z3": 4}, 3),
            ({"z1": -2, "z3": 1, "z4": -5}, 0), ({"z1": 2, "z3": -1, "z4": 5}, 4),
        ]
        bodies = [("row", row) for row in rows] + [("not", ("all", [("same", ({"z2": 1, "z3": 1, "z4": -1}, 0))]))]
        self.assertEqual(told_system(system), told_by_hand(["a", "z0", "z2", "z1", "z3", "z4"], bodies))
        self.assertEqual(unlike_ways(latter, former)[0].names(), ["a", "z1", "z0", "k", "z2", "z3"])

    def test_inputs_and_outputs_with_such_names(self):
        former = read_program("of z1 give z0 by let q = z1 over 2; give q")
        latter = read_program("of z1 give z0 by let p = z1 over 2; let q = p; give q")
        (system,) = unlike_ways(former, latter)
        self.assertEqual(system.names(), ["z1", "q", "z0", "z2"])
        self.assertIs(self.look_through(former, latter), True)

    def test_order_and_which(self):
        former = read_program("of a give x by if a >= 0 { give a } else { if a = -1 { none } else { give 5 } }")
        latter = read_program("of a give x by if 2 divides a { none } else { if 3 divides a { give a } else { none } }")
        systems = [told_system(one) for one in unlike_ways(former, latter)]
        self.assertEqual(len(systems), 9 - 2)
        self.assertEqual(systems, unlike_by_hand(former, latter))
        self.assertEqual([len(one.bodies()) for one in unlike_ways(former, latter)], [2, 4, 3, 4, 3, 5, 4])

    def test_no_outputs(self):
        former, latter = read_program("of a give nothing by if a > 3 { give nothing } else { none }"), read_program("of a give nothing by if a > 4 { give nothing } else { none }")
        self.assertEqual([one.bodies()[-1] for one in unlike_ways(former, latter)][0], ("not", ("all", [])))
        self.assertEqual(unlike_at(former, latter), {"a": 4})
        self.assertIs(self.look_through(former, former), True)
        nothing = Program([], [], ("give", []))
        self.assertIs(self.look_through(nothing, nothing), True)
        self.assertEqual(unlike_at(nothing, Program([], [], ("none",))), {})
        self.assertEqual(alike_papers(Program([], [], ("none",)), Program([], [], ("none",))), [])


class JustOne(LookedThrough):
    def test_pairs(self):
        for former, latter, right in [
            ("of a, b give x by most m = a, b; give m", "of a, b give x by if a >= b { give a } else { give b }", True),
            ("of a, b give x by most m = a, b; give m", "of a, b give x by if a > b { give a } else { give b - 1 }", False),
            ("of a give x by let q = a over 6; give q", "of a give x by let p = a over 2; let q = p over 3; give q", True),
            ("of a give x by let q = a over 6; give q", "of a give x by let p = a + 1 over 2; let q = p over 3; give q", False),
            ("of a give x, y by let q = a over 3; give q, a - 3 * q", "of a give x, y by first k below 3 by 3 divides a - k { let q = a - k over 3; give q, k } else { none }", True),
            ("of a give x, y by let q = a over 3; give q, a - 3 * q", "of a give x, y by first k below 3 by 3 divides a + k { let q = a + k over 3; give q, k } else { none }", False),
            (THIRD.format(2), "of a give x by let q = -a over 3; if 0 <= a { give -q } else { none }", True),
            (THIRD.format(2), "of a give x by let q = -a over 3; if 0 < a { give -q } else { none }", False),
        ]:
            self.assertIs(self.look_through(read_program(former), read_program(latter)), right, (former, latter))
            self.assertIs(self.look_through(read_program(latter), read_program(former)), right, (latter, former))

    def test_at_random(self):
        found = {True: 0, False: 0}
        for chance in chances(150, 35):
            inputs, outputs = ["b", "a"][:chance.randint(0, 2)], ["y", "x"][:chance.randint(0, 2)]
            program = Program(inputs, outputs, any_statement(chance, inputs, outputs, chance.randint(1, 3)))
            other = Program(inputs, outputs, any_statement(chance, inputs, outputs, chance.randint(1, 3)))
            for latter in [program, other]:
                if len(ways(program)) * len(ways(latter)) <= 60:
                    alike = self.look_through(program, latter)
                    found[alike] += 1
                    self.assertEqual([told_system(one) for one in unlike_ways(program, latter)], unlike_by_hand(program, latter))
                    for _ in range(6 if alike else 0):
                        given = {name: chance.randint(-30, 30) for name in inputs}
                        self.assertEqual(run_by_hand(program, given)[0], run_by_hand(latter, given)[0])
        self.assertGreater(min(found.values()), 30)

    def test_what_means_the_same(self):
        for text in [THIRD.format(1), THIRD.format(2)]:
            one, two = program_q(), read_program(text)
            others = [Program(tuple(each.inputs()), tuple(each.outputs()), swapped(each.statement())) for each in [one, two]]
            for ask in [unlike_at, alike_papers]:
                self.assertEqual(shape(ask(one, two)), shape(ask(other=others[1], program=others[0])))
            self.assertEqual(unlike_ways(one, two), unlike_ways(other=others[1], program=others[0]))

    def test_the_callers(self):
        kept = [told_system(one) for one in unlike_ways(program_q(), program_r())]
        texts = [program_text(program_q()), program_text(program_r())]
        for one in unlike_ways(program_q(), program_r()):
            spoil(one.names())
            spoil(one.bodies())
        unlike_ways(program_q(), program_r()).clear()
        self.assertEqual([told_system(one) for one in unlike_ways(program_q(), program_r())], kept)
        self.assertEqual([program_text(program_q()), program_text(program_r())], texts)


class Errors(unittest.TestCase):
    def test_in_their_order(self):
        for ask in [unlike_ways, unlike_at, alike_papers]:
            for thing in objects():
                if not isinstance(thing, Program):
                    refused(self, BadProgram, "program", lambda: ask(thing, None), thing)
                    refused(self, BadProgram, "program", lambda: ask(thing, program_p()), thing)
                    refused(self, BadProgram, "program", lambda: ask(program_q(), thing), thing)
            for inputs, outputs in [(["b"], ["x"]), (["a"], ["y"]), (["a", "b"], ["x"]), ([], ["x"]), (["a"], []), (["a"], ["x", "y"]), (["x"], ["a"])]:
                self.assertRaises(UnlikeNames, ask, program_q(), Program(inputs, outputs, ("none",)))
            for inputs, outputs in [(["b", "a"], ["x", "y"]), (["a", "b"], ["y", "x"]), (["a"], ["b", "x", "y"])]:
                self.assertRaises(UnlikeNames, ask, program_p(), Program(inputs, outputs, ("none",)))
