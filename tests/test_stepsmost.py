"""[15.2]: ways that take more steps, and the greatest number of steps."""

import unittest

from outofwishes.errors import BadNumber, BadProgram
from outofwishes.programs import Program, most_by_text
from outofwishes.programtexts import read_program
from outofwishes.stepsmost import greatest_steps, longer, steps_papers, takes_more
from outofwishes.ways import ways
from tests.checks import are_numbers, figures, paper_flaw, refused, run_by_hand, told_again, told_by_hand, told_system, ways_by_hand
from tests.samples import chances, objects, program_p, program_q, shape, spoil, swapped
from tests.test_deadplaces import small_program


def longer_by_hand(program, number):
    """The told systems of the ways that take more steps, in the order of ways."""
    found = []
    for system, steps, _ in ways(program):
        if steps > number:
            found.append(told_system(system))
    return found


class LookedThrough(unittest.TestCase):
    def look_through(self, program, number):
        """Inputs or papers for a number, looked through; told is whether none take more."""
        systems = longer(program, number)
        self.assertEqual([told_system(one) for one in systems], longer_by_hand(program, number))
        given = told_again(self, lambda: takes_more(program, number))
        papers = told_again(self, lambda: steps_papers(program, number))
        self.assertIsNot(given is None, papers is None)
        self.assertLess(figures((given, papers)), 1000)
        if given is not None:
            self.assertTrue(are_numbers(given, program.inputs()))
            self.assertEqual(list(given), sorted(given))
            self.assertGreater(run_by_hand(program, given)[1], number)
            return False
        self.assertIs(type(papers), list)
        self.assertEqual(len(papers), len(systems))
        for system, paper in zip(systems, papers):
            self.assertIsNone(paper_flaw(system, paper))
        return True

    def look_at_all(self, program):
        """The greatest number of steps, all numbers around it looked through."""
        told = told_again(self, lambda: greatest_steps(program))
        self.assertIs(type(told), tuple)
        number, given = told
        self.assertTrue(are_numbers(given, program.inputs()))
        self.assertEqual(run_by_hand(program, given)[1], number)
        most = most_by_text(program)[0]
        self.assertLessEqual(number, most)
        for other in range(most + 2):
            self.assertIs(self.look_through(program, other), other >= number)
        self.assertEqual(steps_papers(program, most), [])
        self.assertEqual(longer(program, most + 10 ** 20), [])
        return number


class TheExample(LookedThrough):
    def test_q(self):
        self.assertEqual(self.look_at_all(program_q()), 6)
        given = greatest_steps(program_q())[1]
        self.assertEqual((given["a"] % 3, given["a"] >= 0), (1, True))
        self.assertEqual(steps_papers(program_q(), 6), [])
        self.assertEqual(shape(steps_papers(program_q(), 6)), ("list", []))

    def test_p(self):
        self.assertEqual(self.look_at_all(program_p()), 2)


class Longer(LookedThrough):
    def test_fewer_than_by_the_text(self):
        for text, most, number in [
            ("of a give x by first k below 6 by 2 divides a + k { give k } else { let p = a over 2; give p }", 8, 3),
            ("of a give x by if a > 0 { if a < 0 { let p = a over 2; let q = p over 2; give q } else { give 1 } } else { give a }", 5, 3),
            ("of nothing give x by first k below 5 by k >= 2 { give k } else { none }", 6, 4),
            ("of nothing give nothing by if 1 >= 2 { let p = 3; give nothing } else { none }", 3, 2),
            ("of a, b give x by most m = a, b; if m < a { first k below 4 by nothing { none } else { none } } else { give m }", 7, 3),
        ]:
            program = read_program(text)
            self.assertEqual(most_by_text(program)[0], most)
            self.assertEqual(self.look_at_all(program), number)

    def test_from_nothing_on(self):
        program = read_program("of nothing give nothing by none")
        self.assertEqual(greatest_steps(program), (1, {}))
        self.assertEqual([takes_more(program, number) for number in [0, 1, 2]], [{}, None, None])
        self.assertEqual([steps_papers(program, number) for number in [0, 1, 2]], [None, [], []])
        self.assertEqual(len(longer(program, 0)), 1)

    def test_at_random(self):
        for chance in chances(120, 25):
            program = small_program(chance)
            number = self.look_at_all(program)
            for _ in range(6):
                given = {name: chance.choice([chance.randint(-9, 9), chance.randint(-10 ** 9, 10 ** 9)]) for name in program.inputs()}
                self.assertLessEqual(run_by_hand(program, given)[1], number)

    def test_ways_by_hand(self):
        for chance in chances(20, 27):
            program = small_program(chance)
            found = [one for those in ways_by_hand(program).values() for one in those if one[3][0] in ("give", "none")]
            for number in range(8):
                expected = [told_by_hand(names, bodies) for names, bodies, taken, _ in found if taken + 1 > number]
                self.assertEqual(sorted([told_system(one) for one in longer(program, number)], key=str), sorted(expected, key=str))

    def test_what_means_the_same(self):
        for chance in chances(20, 26):
            program = small_program(chance)
            other = Program(tuple(program.inputs()), tuple(program.outputs()), swapped(program.statement()))
            for ask in [takes_more, steps_papers]:
                for number in [0, 2, 3, 5]:
                    self.assertEqual(shape(ask(program, number)), shape(ask(number=number, program=other)))
            self.assertEqual(longer(program, 2), longer(number=2, program=other))
            self.assertEqual(shape(greatest_steps(program)), shape(greatest_steps(program=other)))

    def test_the_callers(self):
        kept = longer_by_hand(program_q(), 3)
        for one in longer(program_q(), 3):
            spoil(one.names())
            spoil(one.bodies())
        longer(program_q(), 3).clear()
        self.assertEqual([told_system(one) for one in longer(program_q(), 3)], kept)


class Errors(unittest.TestCase):
    def test_bad_program_ahead(self):
        for thing in objects():
            if not isinstance(thing, Program):
                for ask in [longer, takes_more, steps_papers]:
                    refused(self, BadProgram, "program", lambda: ask(thing, None), thing)
                refused(self, BadProgram, "program", lambda: greatest_steps(thing), thing)

    def test_bad_number(self):
        for thing in objects() + [-1, -10 ** 30, True, False, "3", [3]]:
            if type(thing) is not int or thing < 0:
                for ask in [longer, takes_more, steps_papers]:
                    refused(self, BadNumber, "number", lambda: ask(program_q(), thing), thing)
