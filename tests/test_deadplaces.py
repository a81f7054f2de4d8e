"""[15.1]: ways down to places, dead statements and papers for them."""

import unittest

from outofwishes.deadplaces import comes_to, comings, dead_papers, dead_places
from outofwishes.errors import BadPlace, BadProgram
from outofwishes.programs import Program, places
from outofwishes.programtexts import read_program
from outofwishes.ways import ways
from outofwishes.wishes import System
from tests.checks import are_numbers, figures, paper_flaw, refused, run_by_hand, told_again, told_by_hand, told_system, ways_by_hand
from tests.samples import any_program, chances, objects, program_p, program_q, shape, spoil, swapped, wish

NO_PLACES = [[2], [-1], [0, 0, 0, 0], [1, 0], [True], [[0]], [None], ["0"], [0, False], "", "0", 0, {}, {0: 0}, (0, 2), ([],)]


def small_program(chance, depth=4):
    """A program at random with not very many ways."""
    while True:
        found = any_program(chance, depth)
        if len(ways(found)) <= 40:
            return found


class LookedThrough(unittest.TestCase):
    def look_through(self, program, place):
        """Inputs or papers of a place, looked through; told is whether it is dead."""
        systems = comings(program, place)
        self.assertTrue(all(type(system) is System for system in systems))
        found = ways_by_hand(program)[tuple(place)]
        self.assertEqual([told_system(one) for one in systems], [told_by_hand(names, bodies) for names, bodies, _, _ in found])
        given = told_again(self, lambda: comes_to(program, place))
        papers = told_again(self, lambda: dead_papers(program, place))
        self.assertIsNot(given is None, papers is None)
        self.assertLess(figures((given, papers)), 1000)
        if given is not None:
            self.assertTrue(are_numbers(given, program.inputs()))
            self.assertEqual(list(given), sorted(given))
            self.assertIn(list(place), run_by_hand(program, given)[2])
            return False
        self.assertIs(type(papers), list)
        self.assertEqual(len(papers), len(systems))
        for system, paper in zip(systems, papers):
            self.assertIsNone(paper_flaw(system, paper))
        return True

    def look_at_all(self, program):
        """The dead places of a program, each place of which is looked through."""
        dead = [place for place in places(program) if self.look_through(program, place)]
        outermost = [place for place in dead if not any(place != other and place[:len(other)] == other for other in dead)]
        told = told_again(self, lambda: dead_places(program))
        self.assertEqual(shape(told), shape(outermost))
        return told


class TheExample(LookedThrough):
    def test_q(self):
        self.assertEqual(self.look_at_all(program_q()), [[0, 1]])
        (system,) = comings(program_q(), [0, 1])
        failed = [("not", ("all", [("by", 3, ({"a": 1}, number))])) for number in range(3)]
        self.assertEqual(told_system(system), told_by_hand(["a"], [("row", ({"a": 1}, 0)), *failed]))
        self.assertEqual(len(dead_papers(program_q(), [0, 1])), 1)

    def test_p(self):
        self.assertEqual(self.look_at_all(program_p()), [])


class EachKind(LookedThrough):
    def test_the_outermost(self):
        for text in ["of a give nothing by none", "of nothing give x by give 1", "of a, b give x by first k below 3 by nothing { give k } else { none }"]:
            program = read_program(text)
            (system,) = comings(program, [])
            self.assertEqual(told_system(system), shape((program.inputs(), [])))
            self.assertIs(self.look_through(program, []), False)

    def test_the_arms(self):
        program = read_program("of a give x by if 2 divides a { if 2 divides a + 1 { give 0 } else { give 1 } } else { if 4 divides a { none } else { give a } }")
        self.assertEqual(self.look_at_all(program), [[0, 0], [1, 0]])

    def test_let_and_most(self):
        program = read_program("of a give x by let p = a over 3; most m = p, a, 0; if m < 0 { none } else { if 3 * p > a { give 0 } else { give m } }")
        self.assertEqual(self.look_at_all(program), [[0, 0, 0], [0, 0, 1, 0]])
        (system,) = comings(program, [0])
        self.assertEqual(system.names(), ["a", "p"])
        self.assertEqual(len(system.bodies()), 2)

    def test_first_and_its_other_one(self):
        text = "of a give x by first k below 3 by {} {{ if k = 2 {{ give 2 }} else {{ give k }} }} else {{ if a = 0 {{ none }} else {{ give a }} }}"
        for tests, dead in [
            ("nothing", [[0, 0], [1]]), ("3 divides a + k", [[1]]), ("2 divides a + k", [[0, 0], [1]]), ("a = k", [[1, 0]]), ("a = 2 * k", [[1, 0]]),
            ("4 divides a + k", [[1, 0]]), ("a = k, a = 5", [[0]]), ("a < 0, a > k", [[0]]),
        ]:
            program = read_program(text.format(tests))
            self.assertEqual(self.look_at_all(program), dead, tests)
        program = read_program(text.format("3 divides a + k"))
        self.assertEqual([len(comings(program, place)) for place in places(program)], [1, 3, 3, 3, 1, 1, 1])

    def test_one_first_within_another(self):
        text = "of a, b give x by first k below 2 by 2 divides a + k { first j below 3 by j + k >= 2 { if 4 <= k + 2 * j { give 1 } else { give 0 } } else { none } } else { give 0 }"
        program = read_program(text)
        self.assertEqual(self.look_at_all(program), [[0, 1], [1]])
        self.assertEqual(len(comings(program, [0, 0])), 6)
        self.assertEqual([system.bodies()[0] for system in comings(program, [0, 1])], [("same", ({"k": 1}, 0)), ("same", ({"k": 1}, -1))])


class AtRandom(LookedThrough):
    def test_at_random(self):
        found = 0
        for chance in chances(150, 15):
            program = small_program(chance)
            found += len(self.look_at_all(program))
            for _ in range(4):
                given = {name: chance.choice([chance.randint(-9, 9), chance.randint(-10 ** 9, 10 ** 9)]) for name in program.inputs()}
                for place in run_by_hand(program, given)[2]:
                    self.assertIsNotNone(comes_to(program, place))
        self.assertGreater(found, 20)

    def test_what_means_the_same(self):
        for chance in chances(20, 16):
            program = small_program(chance)
            other = Program(tuple(program.inputs()), tuple(program.outputs()), swapped(program.statement()))
            for place in places(program):
                for ask in [comes_to, dead_papers]:
                    self.assertEqual(shape(ask(program, place)), shape(ask(place=tuple(place), program=other)))
                self.assertEqual(comings(program, place), comings(place=tuple(place), program=other))
            self.assertEqual(dead_places(program), dead_places(program=other))

    def test_the_callers(self):
        program, place = program_q(), [0, 1]
        kept = [told_system(one) for one in comings(program, place)]
        for one in comings(program, place):
            spoil(one.names())
            spoil(one.bodies())
        comings(program, place).clear()
        self.assertEqual(place, [0, 1])
        self.assertEqual([told_system(one) for one in comings(program, place)], kept)


class Errors(unittest.TestCase):
    def test_bad_program_ahead(self):
        for thing in objects() + [program_q().statement()]:
            if not isinstance(thing, Program):
                for ask in [comings, comes_to, dead_papers]:
                    refused(self, BadProgram, "program", lambda: ask(thing, None), thing)
                refused(self, BadProgram, "program", lambda: dead_places(thing), thing)

    def test_bad_place(self):
        for thing in objects() + NO_PLACES + [wish(), program_q()]:
            if thing != [] and thing != ():
                for ask in [comings, comes_to, dead_papers]:
                    refused(self, BadPlace, "place", lambda: ask(program_q(), thing), thing)
