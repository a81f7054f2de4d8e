"""[20.2], [20.3]: what is wanted at places, charts and where a code does not fit, codes with the fewest registers."""

import unittest

from outofwishes.charts import chart_fault, code_of, fewest_registers, is_chart, wanted_at
from outofwishes.errors import BadChart, BadCode, BadPlace, BadProgram
from outofwishes.machine import is_code, lines_done, play
from outofwishes.programs import Program, known_at, places, statement_at
from outofwishes.programtexts import read_program
from tests.checks import inner_by_hand, is_int, is_row, objects_to_refuse, put_by_hand, refused, run_by_hand, some_bent, told_again
from tests.samples import any_program, chances, objects, program_p, program_q, shape, swapped, wish
from tests.test_machine import CODE_P, code_is_right

CHART_P = [([], 0, {"a": "r0", "b": "r1"}), ([0], 1, {"a": "r0", "p": "r1"})]


def own_terms(statement):
    """The terms of a statement itself, those of its tests, too."""
    kind = statement[0]
    if kind == "if":
        return [statement[1][-1]]
    if kind == "first":
        return [test[-1] for test in statement[3]]
    if kind == "let":
        return [statement[3]]
    return {"give": statement[1:2], "most": statement[2:3], "none": ((),)}[kind][0]


def used_in(statement):
    """The names that a statement has, and those in it."""
    found = {name for term in own_terms(statement) for name, number in term[0].items() if number != 0}
    for inner in inner_by_hand(statement):
        found |= used_in(inner)
    return found


def wanted_by_hand(program, place):
    used = used_in(statement_at(program, place))
    return [name for name in known_at(program, place) if name in used]


def chart_is_right(program, code, thing):
    """Whether any object is a chart of a program and a code."""
    every = places(program)
    cells = [f"r{number}" for number in range(code[0])]
    if not is_row(thing) or len(thing) != len(every):
        return False
    for place, triple in zip(every, thing):
        if not is_row(triple) or len(triple) != 3 or not is_row(triple[0]) or not is_int(triple[1]) or type(triple[2]) is not dict:
            return False
        if not all(is_int(turn) for turn in triple[0]) or list(triple[0]) != place or not 0 <= triple[1] < len(code[1]):
            return False
        held = list(triple[2].values())
        if set(triple[2]) != set(wanted_by_hand(program, place)) or not all(type(cell) is str and cell in cells for cell in held) or len(set(held)) < len(held):
            return False
    first = thing[0]
    return first[1] == 0 and all(cell == f"r{program.inputs().index(name)}" for name, cell in first[2].items())


def lead(code, line):
    while code[1][line][0] == "go":
        line = code[1][line][1]
    return line


def expected_blocks(program, place, triple, behind):
    """The blocks of a most or a first one, as pairs of tests and of sets, none or one."""
    statement = statement_at(program, place)
    name = statement[1]

    def put(thing):
        for one, cell in triple[2].items():
            thing = put_by_hand(thing, one, ({"!" + cell: 1}, 0))
        for cell in triple[2].values():
            thing = put_by_hand(thing, "!" + cell, ({cell: 1}, 0))
        return thing

    found = []
    if statement[0] == "most":
        for at, term in enumerate(statement[2]):
            rows = []
            for beside, other in enumerate(statement[2]):
                if beside != at and at < len(statement[2]) - 1:
                    less = put_by_hand((term[0], term[1]), "", ({}, 0))
                    for one, number in other[0].items():
                        less = ({**less[0], one: less[0].get(one, 0) - number}, less[1])
                    rows.append(("row", put((less[0], less[1] - other[1]))))
            found.append((rows, [("set", behind[2][name], 1, put(term))]))
        return found
    for number in range(statement[2] if statement[3] else 1):
        tests = [put(put_by_hand(test, name, ({}, number))) for test in statement[3]]
        found.append((tests, [("set", behind[2][name], 1, ({}, number))] if name in behind[2] else []))
    return found


def fits_by_hand(program, code, chart, place):
    """Whether a code fits at a place, a chart of which is given as a dict from places."""
    statement, triple = statement_at(program, place), chart[tuple(place)]
    inner = [chart[(*place, turn)] for turn in range(len(inner_by_hand(statement)))]
    name = statement[1] if statement[0] in ("let", "most", "first") else None
    for one in inner:
        if any(triple[2].get(other) != cell for other, cell in one[2].items() if other != name):
            return False
    lines, at = [(*line,) for line in code[1]], lead(code, triple[1])
    told = lambda thing: put_by_hand(thing, "", ({}, 0))

    def put(thing):
        for one, cell in triple[2].items():
            thing = put_by_hand(thing, one, ({"!" + cell: 1}, 0))
        for cell in triple[2].values():
            thing = put_by_hand(thing, "!" + cell, ({cell: 1}, 0))
        return thing

    if statement[0] == "none":
        return lines[at][0] == "none"
    if statement[0] == "give":
        return lines[at][0] == "give" and [told(term) for term in lines[at][1]] == [put(term) for term in statement[1]]
    if statement[0] == "if":
        if lines[at][0] != "jump" or told(lines[at][1]) != put(statement[1]):
            return False
        return lead(code, lines[at][2]) == lead(code, inner[1][1]) and lead(code, at + 1) == lead(code, inner[0][1])
    onward = lead(code, inner[0][1])
    if name not in inner[0][2] and statement[0] in ("let", "most"):
        return at == onward
    if statement[0] == "let":
        if lines[at][:3] != ("set", inner[0][2][name], statement[2]) or told(lines[at][3]) != put(statement[3]):
            return False
        return lead(code, at + 1) == onward
    for tests, sets in expected_blocks(program, place, triple, inner[0]):
        leads = []
        for test in tests:
            if lines[at][0] != "jump" or told(lines[at][1]) != test:
                return False
            leads.append(lead(code, lines[at][2]))
            at += 1
        for line in sets:
            if lines[at][:3] != line[:3] or lines[at][0] != "set" or told(lines[at][3]) != line[3]:
                return False
            at += 1
        if lead(code, at) != onward or len(set(leads)) > 1:
            return False
        if leads:
            at = leads[0]
    return not (statement[0] == "first" and statement[3]) or at == lead(code, inner[1][1])


def fault_by_hand(program, code, chart):
    found = {tuple(place): (place, line, cells) for place, line, cells in chart}
    for place in places(program):
        if not fits_by_hand(program, code, found, place):
            return place
    return None


def with_gos(chance, code, chart):
    """The same code and chart with goes put in where they change nothing, and lines led there by them."""
    many, lines = code
    at = chance.randint(0, len(lines) - 1)
    target = chance.randint(at, len(lines) - 1)
    # A go ahead of a line, to that line or, where nobody comes to it, to any one behind.
    free = at > 0 and lines[at - 1][0] in ("go", "give", "none") and all(at not in line[1:] for line in lines if line[0] in ("go", "jump"))
    target = target if free and all(line != at for _, line, _ in chart) else at
    moved = lambda number: number + (number >= at)
    keep = lambda number: number + (number > at or (number == at and chance.random() < 0.5))
    new = []
    for line in lines:
        new.append((*line[:-1], keep(line[-1])) if line[0] in ("go", "jump") else line)
    new = new[:at] + [("go", moved(target))] + new[at:]
    return (many, new), [(place, 0 if place == [] else keep(line), cells) for place, line, cells in chart]


class Wanted(unittest.TestCase):
    def test_the_example(self):
        for place, names in [([], ["a"]), ([0], ["a"]), ([0, 0], ["a", "k"]), ([0, 0, 0], ["q"]), ([0, 1], []), ([1], [])]:
            told = told_again(self, lambda: wanted_at(program_q(), place))
            self.assertEqual(shape(told), shape(names))
            self.assertEqual(wanted_at(place=tuple(place), program=program_q()), names)

    def test_in_the_order_of_known_at(self):
        program = read_program("of b, a, c give x by let z = b + 0 * c; let y = c over 2; most m = z, y + a; first k below 3 by k > m, c >= 0 { give z - b } else { give y }")
        for place, names in [([], ["b", "a", "c"]), ([0], ["b", "a", "c", "z"]), ([0, 0], ["b", "a", "c", "z", "y"]), ([0, 0, 0], ["b", "c", "z", "y", "m"]), ([0, 0, 0, 0], ["b", "z"]), ([0, 0, 0, 1], ["y"])]:
            self.assertEqual(wanted_at(program, place), names)

    def test_the_same_name_set_beside(self):
        program = read_program("of a give x by first k below 2 by a >= k { give k } else { let k = a over 2; give k }")
        self.assertEqual([wanted_at(program, place) for place in places(program)], [["a"], ["k"], ["a"], ["k"]])

    def test_at_random(self):
        for chance in chances(100, 71):
            program = any_program(chance, 4)
            for place in places(program):
                self.assertEqual(wanted_at(program, place), wanted_by_hand(program, place))

    def test_errors(self):
        for thing in objects():
            if not isinstance(thing, Program):
                refused(self, BadProgram, "program", lambda: wanted_at(thing, None), thing)
            if thing not in ([], ()):
                refused(self, BadPlace, "place", lambda: wanted_at(program_q(), thing), thing)
        for thing in [[2], [-1], [True], [0, 0, 0, 0], [[0]], {0: 0}, "0", wish()]:
            refused(self, BadPlace, "place", lambda: wanted_at(program_q(), thing), thing)


class LookedThrough(unittest.TestCase):
    def look_through(self, program, chance=None):
        """What code_of tells, looked through and run."""
        told = told_again(self, lambda: code_of(program))
        self.assertEqual([type(told), type(told[0]), type(told[1])], [tuple, tuple, list])
        code, chart = told
        self.assertTrue(code_is_right(program, code))
        self.assertIs(is_code(program, code), True)
        self.assertTrue(chart_is_right(program, code, chart))
        self.assertIs(is_chart(program, code, chart), True)
        self.assertIsNone(fault_by_hand(program, code, chart))
        self.assertIsNone(chart_fault(chart=swapped(chart), code=swapped(code), program=program))
        for _, _, cells in chart:
            self.assertEqual(list(cells), sorted(cells))
        wanted = [wanted_by_hand(program, place) for place in places(program)]
        most = max(len(names) for names in wanted)
        place = places(program)[[len(names) for names in wanted].index(most)]
        number = max(most, len(program.inputs()))
        self.assertEqual(shape(told_again(self, lambda: fewest_registers(program))), shape((number, place)))
        self.assertEqual(code[0], number)
        for _ in range(4 if chance else 0):
            given = {name: chance.choice([chance.randint(-9, 9), chance.randint(-10 ** 15, 10 ** 15)]) for name in program.inputs()}
            self.assertEqual(play(program, code, given), run_by_hand(program, given)[0])
            self.assertGreaterEqual(lines_done(program, code, given), 1)
        return code, chart


class CodeOf(LookedThrough):
    def test_the_example(self):
        self.assertEqual(shape(code_of(program_p())), shape((CODE_P, CHART_P)))
        self.assertEqual(fewest_registers(program_p()), (2, []))
        self.assertEqual(fewest_registers(program_q()), (2, [0, 0]))
        self.look_through(program_p(), chances(1)[0])
        self.look_through(program_q(), chances(1)[0])

    def test_names_that_nobody_wants(self):
        for text, number in [
            ("of a, b, c give x by give b", 3), ("of a give x by let p = a over 2; give a", 1), ("of a give x by most p = a, 2; none", 1),
            ("of nothing give x by let p = 5; give 3", 0), ("of a give x by first k below 3 by 2 divides a + k { give a } else { none }", 1),
            ("of a give x by first k below 3 by nothing { give a } else { give a + 1 }", 1), ("of a give nothing by first k below 2 by nothing { if a >= 0 { give nothing } else { none } } else { none }", 1),
            ("of a give nothing by give nothing", 1),
        ]:
            code, _ = self.look_through(read_program(text), chances(1)[0])
            self.assertEqual(code[0], number, text)
            self.assertFalse(any(line[0] == "set" for line in code[1]))

    def test_mosts_and_first_ones_of_any_count(self):
        for text in [
            "of a give x by first k below 60 by 60 divides a + k { give k } else { none }", "of a give x by first k below 60 by nothing { give k } else { give a }",
            "of a, b give x by first k below 60 by a <= k, b <= k, 2 divides k + a { give a - k } else { let k = a over 2; give k }",
            "of a give x by first k below 1 by a > k { give k } else { none }", "of a, b give x by most m = a; give m + b",
            "of a, b give x by most m = a, b, a + b, 2 * a - b, 7, a, b; most n = m - a, m - b; give n", "of nothing give x by most m = 1, 2, 3; give m",
            "of a, b give x, y by let p = a over 3; let q = b over 3; let p1 = p + q over 2; let q1 = p - q over 2; give p1 + q1, p1 - q1",
        ]:
            for chance in chances(3, 73):
                self.look_through(read_program(text), chance)

    def test_the_register_of_a_name_not_wanted_any_more(self):
        code, chart = code_of(read_program("of a give x by let p = a over 2; let q = p over 2; let r = q over 2; give r"))
        self.assertEqual(code[0], 1)
        self.assertEqual([cells for _, _, cells in chart], [{"a": "r0"}, {"p": "r0"}, {"q": "r0"}, {"r": "r0"}])

    def test_at_random(self):
        for chance in chances(250, 72):
            self.look_through(any_program(chance, chance.randint(1, 5)), chance)

    def test_what_means_the_same(self):
        for chance in chances(30, 76):
            program = any_program(chance, 4)
            other = Program(tuple(program.inputs()), tuple(program.outputs()), swapped(program.statement()))
            self.assertEqual(shape(code_of(program)), shape(code_of(program=other)))
            self.assertEqual(fewest_registers(program), fewest_registers(program=other))

    def test_errors(self):
        for thing in objects():
            if not isinstance(thing, Program):
                refused(self, BadProgram, "program", lambda: code_of(thing), thing)
                refused(self, BadProgram, "program", lambda: fewest_registers(thing), thing)


class Charts(unittest.TestCase):
    def look(self, program, code, chart):
        """Check is_chart and chart_fault of any objects, by hand; told is the fault, or what was raised."""
        self.assertIs(is_code(program, code), code_is_right(program, code))
        if not code_is_right(program, code):
            for ask in [is_chart, chart_fault]:
                refused(self, BadCode, "code", lambda: ask(program, code, chart), code)
            return "code"
        right = chart_is_right(program, code, chart)
        self.assertIs(is_chart(program=program, code=code, thing=chart), right, chart)
        if not right:
            refused(self, BadChart, "chart", lambda: chart_fault(program, code, chart), chart)
            return "chart"
        told = chart_fault(program, code, chart)
        self.assertEqual(shape(told), shape(fault_by_hand(program, code, chart)), (code, chart))
        return "fault" if told is not None else "none"

    def test_the_example(self):
        self.assertEqual(self.look(program_p(), CODE_P, CHART_P), "none")
        lines = [("set", "r1", 12, CODE_P[1][0][3]), CODE_P[1][1]]
        self.assertEqual(chart_fault(program_p(), (2, lines), CHART_P), [])

    def test_one_thing_otherwise(self):
        found = {}
        for chance in chances(60, 74):
            program = any_program(chance, chance.randint(1, 4))
            code, chart = code_of(program)
            for other in some_bent(code, chance, 25):
                self.look(program, other, chart)
            for other in some_bent(chart, chance, 25):
                self.look(program, code, other)
            cells = [f"r{number}" for number in range(code[0] + 1)]
            for _ in range(25):
                lines, triples = list(code[1]), list(chart)
                at, turn = chance.randrange(len(lines)), chance.randrange(len(triples))
                kind = chance.choice(["line", "cell", "twice", "exchanged", "target"])
                if kind == "line":
                    triples[turn] = (triples[turn][0], chance.randrange(len(lines)), triples[turn][2])
                elif kind == "cell" and triples[turn][2]:
                    triples[turn] = (*triples[turn][:2], {**triples[turn][2], chance.choice(list(triples[turn][2])): chance.choice(cells)})
                elif kind == "twice":
                    lines.insert(at, lines[at])
                elif kind == "exchanged":
                    beside = chance.randrange(len(lines))
                    lines[at], lines[beside] = lines[beside], lines[at]
                elif lines[at][0] in ("jump", "go"):
                    lines[at] = (*lines[at][:-1], chance.randrange(len(lines)))
                told = self.look(program, (code[0] + chance.randint(0, 1), lines), triples)
                found[told] = found.get(told, 0) + 1
        self.assertGreater(min(found.get(word, 0) for word in ["code", "chart", "fault", "none"]), 10)

    def test_goes_put_in(self):
        found = {"none": 0, "fault": 0}
        for chance in chances(150, 75):
            program = any_program(chance, chance.randint(1, 4))
            code, chart = code_of(program)
            for _ in range(chance.randint(1, 4)):
                code, chart = with_gos(chance, code, chart)
            told = self.look(program, code, chart)
            found[told] += 1
            for _ in range(3):
                given = {name: chance.randint(-9, 9) for name in program.inputs()}
                self.assertEqual(play(program, code, given), run_by_hand(program, given)[0])
        self.assertGreater(min(found.values()), 10)

    def test_the_first_place_of_several(self):
        program = program_q()
        code, chart = code_of(program)
        lines = list(code[1])
        for at, place in [(10, [0, 0, 0]), (9, [0, 0]), (4, [0]), (0, [])]:
            line = lines[at]
            if line[0] == "give":
                lines[at] = ("give", [({"r0": 2}, 0)])
            elif line[0] == "set":
                lines[at] = ("set", line[1], 4, line[3])
            else:
                lines[at] = ("jump", ("by", 7, ({"r0": 1}, 1)), line[2])
            self.assertEqual(chart_fault(program, (2, lines), chart), place)
        self.assertEqual(chart_fault(program, (2, code[1][:12] + [("give", [({}, 0)])]), chart), [1])

    def test_other_codes_that_fit(self):
        program = read_program("of a give x by if a >= 0 { first k below 2 by 2 divides a + k { give k } else { none } } else { none }")
        lines = [
            ("go", 1), ("jump", ("row", ({"r0": 1}, 0)), 9), ("go", 3), ("jump", ("by", 2, ({"r0": 1}, 0)), 6), ("set", "r0", 1, ({}, 0)), ("go", 8),
            ("jump", ("by", 2, ({"r0": 1}, 1)), 9), ("set", "r0", 1, ({}, 1)), ("give", [({"r0": 1}, 0)]), ("none",),
        ]
        chart = [([], 0, {"a": "r0"}), ([0], 2, {"a": "r0"}), ([0, 0], 5, {"k": "r0"}), ([0, 1], 9, {}), ([1], 9, {})]
        self.assertIsNone(chart_fault(program, (1, lines), chart))
        self.assertIsNone(fault_by_hand(program, (1, lines), chart))
        for place, line, fault in [(0, 1, "chart"), (1, 3, None), (2, 8, None), (2, 7, [0]), (3, 8, [0]), (4, 5, []), (1, 1, [])]:
            other = list(chart)
            other[place] = (chart[place][0], line, chart[place][2])
            if fault == "chart":
                self.assertIs(is_chart(program, (1, lines), other), False)
            else:
                self.assertEqual(chart_fault(program, (1, lines), other), fault, (place, line))

    def test_of_any_object(self):
        code, chart = code_of(program_q())
        others = [chart[:-1], chart + chart[-1:], chart[::-1], [chart], {"chart": chart}, chart[:3] + chart[2:], [triple[:2] for triple in chart], [[*triple, 0] for triple in chart]]
        for thing in objects() + objects_to_refuse() + others + [wish()]:
            self.assertIs(is_chart(program_q(), code, thing), False)
            refused(self, BadChart, "chart", lambda: chart_fault(program_q(), code, thing), thing)
        nothing = Program([], [], ("none",))
        self.assertIs(is_chart(nothing, (0, [("none",)]), [((), 0, {})]), True)
        self.assertIs(is_chart(nothing, (0, [("none",)]), [((), False, {})]), False)
        self.assertIs(is_chart(nothing, (0, [("none",)]), []), False)

    def test_errors_in_their_order(self):
        for thing in objects():
            for ask in [is_chart, chart_fault]:
                if not isinstance(thing, Program):
                    refused(self, BadProgram, "program", lambda: ask(thing, None, None), thing)
                refused(self, BadCode, "code", lambda: ask(program_q(), thing, None), thing)

    def test_nothing_is_changed(self):
        code, chart = swapped(swapped(CODE_P)), swapped(swapped(CHART_P))
        chart_fault(program_p(), code, chart)
        is_chart(program_p(), code, chart)
        self.assertEqual((shape(code), shape(chart)), (shape(CODE_P), shape(CHART_P)))
