"""Texts of programs: read, held up with a fault, and written."""

from outofwishes.errors import BadProgram
from outofwishes.pieces import read_or_fault
from outofwishes.programs import Program
from outofwishes.sums import list_text, read_new_names, read_sum, read_test, sum_text, test_text


def _read_sums(reader, known):
    """Read sums with commas between them."""
    sums = [read_sum(reader, known)]
    while reader.takes(","):
        sums.append(read_sum(reader, known))
    return sums


def _read_tests(reader, known):
    """Read tests with commas between them, or "nothing"."""
    if reader.takes("nothing"):
        return []
    tests = [read_test(reader, known)]
    while reader.takes(","):
        tests.append(read_test(reader, known))
    return tests


def _read_give(reader, known, outputs):
    """Read what is given: as many sums as outputs, or "nothing" where there is no output."""
    if len(outputs) == 0:
        reader.needs("nothing")
        return ("give", [])
    terms = [read_sum(reader, known)]
    while len(terms) < len(outputs):
        reader.needs(",")
        terms.append(read_sum(reader, known))
    return ("give", terms)


def _read_let(reader, known, outputs):
    """Read a let, without the statement behind."""
    name = reader.needs_new(known + outputs)
    reader.needs("=")
    term = read_sum(reader, known)
    number = 1
    if reader.takes("over"):
        number = reader.needs_positive()
    reader.needs(";")
    return ("let", name, number, term)


def _read_most(reader, known, outputs):
    """Read a most, without the statement behind."""
    name = reader.needs_new(known + outputs)
    reader.needs("=")
    terms = _read_sums(reader, known)
    reader.needs(";")
    return ("most", name, terms)


def _read_within(reader, known, outputs):
    """Read a statement within { and }."""
    reader.needs("{")
    statement = _read_statement(reader, known, outputs)
    reader.needs("}")
    return statement


def _read_if(reader, known, outputs):
    test = read_test(reader, known)
    statement = _read_within(reader, known, outputs)
    reader.needs("else")
    return ("if", test, statement, _read_within(reader, known, outputs))


def _read_first(reader, known, outputs):
    name = reader.needs_new(known + outputs)
    reader.needs("below")
    count = reader.needs_positive()
    reader.needs("by")
    tests = _read_tests(reader, known + [name])
    statement = _read_within(reader, known + [name], outputs)
    reader.needs("else")
    return ("first", name, count, tests, statement, _read_within(reader, known, outputs))


def _read_last(reader, known, outputs):
    """Read a statement behind all lets and mosts."""
    if reader.takes("give"):
        return _read_give(reader, known, outputs)
    if reader.takes("none"):
        return ("none",)
    if reader.takes("if"):
        return _read_if(reader, known, outputs)
    reader.needs("first")
    return _read_first(reader, known, outputs)


def _read_statement(reader, known, outputs):
    """Read a statement where these names are known."""
    # One let behind another is read in a loop: they may be many, and recursion is not to go so deep.
    heads = []
    names = list(known)
    while True:
        if reader.takes("let"):
            heads.append(_read_let(reader, names, outputs))
        elif reader.takes("most"):
            heads.append(_read_most(reader, names, outputs))
        else:
            break
        names.append(heads[-1][1])
    statement = _read_last(reader, names, outputs)
    for head in reversed(heads):
        statement = head + (statement,)
    return statement


def _read_whole(reader):
    """Read a program up to the end of the text."""
    reader.needs("of")
    inputs = read_new_names(reader, [])
    reader.needs("give")
    outputs = read_new_names(reader, inputs)
    reader.needs("by")
    statement = _read_statement(reader, inputs, outputs)
    reader.needs("")
    return Program(inputs, outputs, statement)


def read_program(text):
    """The program that a text tells, None if it tells none."""
    return read_or_fault(text, _read_whole)[0]


def program_fault(text):
    """None for a text of a program; else where any object stops being one, and what could stand there."""
    return read_or_fault(text, _read_whole)[1]


def _sums_text(terms):
    """The texts of terms, with commas between them."""
    return list_text([sum_text(term) for term in terms])


def _set_text(statement):
    """The text of a let or a most, without the statement behind."""
    if statement[0] == "most":
        return f"most {statement[1]} = {_sums_text(statement[2])};"
    over = "" if statement[2] == 1 else f" over {statement[2]}"
    return f"let {statement[1]} = {sum_text(statement[3])}{over};"


def _statement_text(statement):
    """A text of a told statement."""
    kind = statement[0]
    if kind == "none":
        return "none"
    if kind == "give":
        return f"give {_sums_text(statement[1])}"
    if kind in ("let", "most"):
        return f"{_set_text(statement)} {_statement_text(statement[-1])}"
    if kind == "if":
        head = f"if {test_text(statement[1])}"
    else:
        tests = list_text([test_text(test) for test in statement[3]])
        head = f"first {statement[1]} below {statement[2]} by {tests}"
    within = _statement_text(statement[-2])
    other = _statement_text(statement[-1])
    return head + " { " + within + " } else { " + other + " }"


def program_text(program):
    """The text of a program; read_program of it is this program."""
    if not isinstance(program, Program):
        raise BadProgram(program)
    header = f"of {list_text(program.inputs())} give {list_text(program.outputs())}"
    return f"{header} by {_statement_text(program.statement())}"
