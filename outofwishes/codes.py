"""Codes of the machine by themselves: their registers and lines."""

from outofwishes.bodies import is_test, term_of, told_test
from outofwishes.errors import BadCode
from outofwishes.kinds import FIGURES, is_from_one, is_list, is_name, is_whole
from outofwishes.terms import bad_term_at, is_term, names_of, told_term

PARTS = {"set": 4, "jump": 3, "go": 2, "give": 2, "none": 1}


def cell_name(number):
    """The name of the register with a number."""
    return "r" + str(number)


def is_cell(thing, many):
    """Whether a thing is the name of one of so many registers."""
    if not is_name(thing) or len(thing) < 2 or thing[0] != "r":
        return False
    if not all([sign in FIGURES for sign in thing[1:]]):
        return False
    number = int(thing[1:])
    return number < many and thing == cell_name(number)


def _has_cells_alone(term, many):
    """Whether a term has no names but those of so many registers; a coefficient 0 needs none."""
    return all([is_cell(name, many) for name in names_of(term)])


def _is_term_of(thing, many):
    """Whether a thing is a term of so many registers."""
    return is_term(thing) and _has_cells_alone(thing, many)


def _are_terms_of(thing, many):
    """Whether a thing is a list of terms of so many registers."""
    return bad_term_at(thing) is None and all([_has_cells_alone(term, many) for term in thing])


def _is_ahead(thing, at, length):
    """Whether a thing is the index of a line behind one."""
    return is_whole(thing) and at < thing < length


def _is_line(thing, at, many, length, outputs):
    """Whether a thing is a line that can stand at an index, of a code of so many registers, lines and outputs."""
    if not is_list(thing) or len(thing) == 0 or not isinstance(thing[0], str):
        return False
    kind = thing[0]
    if kind not in PARTS or len(thing) != PARTS[kind]:
        return False
    if kind == "set":
        return is_cell(thing[1], many) and is_from_one(thing[2]) and _is_term_of(thing[3], many)
    if kind == "jump":
        return is_test(thing[1]) and _has_cells_alone(term_of(thing[1]), many) and _is_ahead(thing[2], at, length)
    if kind == "go":
        return _is_ahead(thing[1], at, length)
    return kind == "none" or (_are_terms_of(thing[1], many) and len(thing[1]) == outputs)


def is_code_for(program, thing):
    """Whether any object is a code for a program."""
    if not is_list(thing) or len(thing) != 2 or not is_whole(thing[0]) or not is_list(thing[1]):
        return False
    many, lines = thing
    if many < len(program.inputs()) or len(lines) == 0:
        return False
    outputs = len(program.outputs())
    if not all([_is_line(line, at, many, len(lines), outputs) for at, line in enumerate(lines)]):
        return False
    return lines[-1][0] in ("give", "none")


def _told_line(line):
    """The told form of a line, new throughout."""
    if line[0] == "set":
        return ("set", line[1], line[2], told_term(line[3]))
    if line[0] == "jump":
        return ("jump", told_test(line[1]), line[2])
    if line[0] == "give":
        return ("give", [told_term(term) for term in line[1]])
    return tuple(line)


def told_lines(program, code):
    """The told lines of a code for a program; BadCode for what is none."""
    if not is_code_for(program, code):
        raise BadCode(code)
    return [_told_line(line) for line in code[1]]
