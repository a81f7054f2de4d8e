"""Texts of wishes: read, held up with a fault, and written."""

from outofwishes.errors import BadWish
from outofwishes.pieces import read_or_fault
from outofwishes.sums import list_text, read_new_names, read_test, test_text
from outofwishes.wishes import Wish


def _read_within(reader, known):
    """Read ( and ) and nothing or one body within: the list of none or one."""
    reader.needs("(")
    if reader.takes(")"):
        return []
    body = _read_body(reader, known)
    reader.needs(")")
    return [body]


def _read_unit(reader, known):
    """Read a test, a unit behind "not", a body in brackets, or an all, an any of none or one."""
    if reader.takes("not"):
        return ("not", _read_unit(reader, known))
    if reader.takes("all"):
        return ("all", _read_within(reader, known))
    if reader.takes("any"):
        return ("any", _read_within(reader, known))
    if reader.takes("("):
        body = _read_body(reader, known)
        reader.needs(")")
        return body
    return read_test(reader, known)


def _rest_of_body(reader, known, word, units):
    """Read the units behind the first ones, with one and the same word ahead of each."""
    while reader.takes(word):
        units.append(_read_unit(reader, known))
    return units


def _read_body(reader, known):
    """Read one unit, or several with "and" between all of them, or with "or"."""
    first = _read_unit(reader, known)
    if reader.takes("and"):
        return ("all", _rest_of_body(reader, known, "and", [first, _read_unit(reader, known)]))
    if reader.takes("or"):
        return ("any", _rest_of_body(reader, known, "or", [first, _read_unit(reader, known)]))
    return first


def _read_whole(reader):
    """Read a wish up to the end of the text."""
    reader.needs("of")
    inputs = read_new_names(reader, [])
    reader.needs("give")
    outputs = read_new_names(reader, inputs)
    reader.needs(":")
    body = _read_body(reader, inputs + outputs)
    reader.needs("")
    return Wish(inputs, outputs, body)


def read_wish(text):
    """The wish that a text tells, None if it tells none."""
    return read_or_fault(text, _read_whole)[0]


def text_fault(text):
    """None for a text of a wish; else where any object stops being one, and what could stand there."""
    return read_or_fault(text, _read_whole)[1]


def _body_text(body, inside):
    """A text of a body; inside tells whether several with a word between them need brackets."""
    if body[0] == "not":
        return f"not {_body_text(body[1], True)}"
    if body[0] not in ("all", "any"):
        return test_text(body)
    if len(body[1]) < 2:
        within = "".join([_body_text(inner, False) for inner in body[1]])
        return f"{body[0]}({within})"
    word = " and " if body[0] == "all" else " or "
    text = word.join([_body_text(inner, True) for inner in body[1]])
    return f"({text})" if inside else text


def written(wish):
    """The text of a wish; read_wish of it is this wish."""
    if not isinstance(wish, Wish):
        raise BadWish(wish)
    header = f"of {list_text(wish.inputs())} give {list_text(wish.outputs())}"
    return f"{header}: {_body_text(wish.body(), False)}"
