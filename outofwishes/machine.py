"""The machine: codes for programs are played, and made programs of."""

from outofwishes.bodies import is_test_so, term_of
from outofwishes.codes import cell_name, is_code_for, told_lines
from outofwishes.errors import BadGiven
from outofwishes.kinds import is_numbers_of, told_numbers
from outofwishes.programs import Program
from outofwishes.putting import put_in_term, put_in_test
from outofwishes.terms import names_of, value_of
from outofwishes.ways import check_program


def is_code(program, thing):
    """Whether any object is a code for a program."""
    check_program(program)
    return is_code_for(program, thing)


def _at_first(program):
    """What the registers with inputs stand for at first."""
    return {cell_name(at): name for at, name in enumerate(program.inputs())}


def _held_in(term, held):
    """The numbers of the registers of a term; what nothing was put in holds 0."""
    return {name: held.get(name, 0) for name in names_of(term)}


def _next_line(lines, at, held):
    """The index of the line behind the one at an index, which is done; what registers hold may change."""
    line = lines[at]
    if line[0] == "go":
        return line[1]
    if line[0] == "jump":
        return at + 1 if is_test_so(line[1], _held_in(term_of(line[1]), held)) else line[2]
    held[line[1]] = value_of(line[3], _held_in(line[3], held)) // line[2]
    return at + 1


def _played(program, code, given):
    """The triple of the last line of a play, what registers hold there, and how many lines are done."""
    check_program(program)
    lines = told_lines(program, code)
    if not is_numbers_of(given, program.inputs()):
        raise BadGiven(given)
    first = _at_first(program)
    held = {cell: given[first[cell]] for cell in first}
    at = 0
    many = 1
    while lines[at][0] not in ("give", "none"):
        at = _next_line(lines, at, held)
        many += 1
    return (lines[at], held, many)


def play(program, code, given):
    """The answer that a code comes to: the outputs' integers, None for none."""
    line, held, _ = _played(program, code, given)
    if line[0] == "none":
        return None
    outputs = program.outputs()
    return told_numbers({name: value_of(term, _held_in(term, held)) for name, term in zip(outputs, line[1])})


def lines_done(program, code, given):
    """How many lines are done, the last one too."""
    return _played(program, code, given)[2]


def _new_name(known, outputs):
    """The first of s0, s1, .. that is no output and not known."""
    at = 0
    while "s" + str(at) in known or "s" + str(at) in outputs:
        at += 1
    return "s" + str(at)


def _stood_for(term, stands):
    """What is put in for the registers of a term; 0 where nothing stands for one."""
    return {name: stands.get(name, ({}, 0)) for name in names_of(term)}


def _statement_from(lines, at, stands, known, outputs):
    """The statement that does what a code does from a line on, each register standing for a term of known names."""
    stands = dict(stands)
    known = list(known)
    lets = []
    while lines[at][0] in ("set", "go"):
        line = lines[at]
        if line[0] == "go":
            at = line[1]
        else:
            term = put_in_term(line[3], _stood_for(line[3], stands))
            if line[2] > 1:
                name = _new_name(known, outputs)
                lets.append((name, line[2], term))
                known.append(name)
                term = ({name: 1}, 0)
            stands[line[1]] = term
            at += 1
    line = lines[at]
    if line[0] == "jump":
        test = put_in_test(line[1], _stood_for(term_of(line[1]), stands))
        behind = _statement_from(lines, at + 1, stands, known, outputs)
        statement = ("if", test, behind, _statement_from(lines, line[2], stands, known, outputs))
    elif line[0] == "give":
        statement = ("give", [put_in_term(term, _stood_for(term, stands)) for term in line[1]])
    else:
        statement = ("none",)
    for name, number, term in reversed(lets):
        statement = ("let", name, number, term, statement)
    return statement


def as_program(program, code):
    """The program that does what a code for a program does."""
    check_program(program)
    lines = told_lines(program, code)
    first = _at_first(program)
    stands = {cell: ({first[cell]: 1}, 0) for cell in first}
    inputs, outputs = program.inputs(), program.outputs()
    return Program(inputs, outputs, _statement_from(lines, 0, stands, inputs, outputs))
