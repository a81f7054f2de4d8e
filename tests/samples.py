"""What several test files need: examples of the document, objects of all kinds, bodies and programs at random."""

import random

from outofwishes.programs import Program
from outofwishes.wishes import System, Wish

WORDS = (
    "of give nothing and or not all any divides none let most if else first below by over"
).split()

NO_NAMES = ["", "A", "1a", "_a", "a_b", "a b", "aB", "abcdefghi", "a-", " a", "a\n", "\u00e4", "\u0661", "a\u0662"] + WORDS
NAMES = ["a", "z", "a1", "b0", "abcdefgh", "a1234567", "off", "andy", "new", "name", "number", "positive"]

# Lists of names with the first index that is bad in each, and what is no dict from just a to an integer.
NO_LISTS = [None, 1, True, "ab", "", {}, {"a": 1}, len]
BAD_NAMES = [
    (["a", "a"], 1), (["a", "b", "a", "b"], 2), (["a", 1], 1), ([True], 0), ([None, "a"], 0), (["a", ["b"]], 1),
    (["a", {}], 1), (("a", ("b",)), 1), (["a", len], 1), ([[], "a", "a"], 0), (["a", "b", "of", "a"], 2),
] + [(["a", "b1", name], 2) for name in NO_NAMES] + [(thing, 0) for thing in NO_LISTS]
NO_NUMBERS_OF_A = [
    None, 1, [], "a", (), [("a", 1)], {}, {"a": 1, "c": 1}, {"b": 1}, {"a": True}, {"a": None}, {"a": "1"}, {"a": [1]},
    {"a": 1, 2: 1}, {1: 1}, {"A": 1}, len,
]

X = ("row", ({"x": 1}, 0))
Y = ("row", ({"y": 1}, 0))


def wish():
    """W of [3.6]."""
    return Wish(["a", "b"], ["x", "y"], wish_body())


def wish_body():
    return (
        "all",
        [
            ("same", ({"x": 3, "y": 5, "a": -1}, 0)),
            ("any", [("row", ({"x": -2, "y": 1, "b": 1}, 0)), ("by", 4, ({"y": 1, "x": -1}, 0))]),
        ],
    )


def program_p():
    """P of [12.6]."""
    give = ("give", [({"a": 2, "p": 5}, 0), ({"a": -1, "p": -3}, 0)])
    return Program(["a", "b"], ["x", "y"], ("let", "p", 13, ({"a": -5, "b": 1}, 0), give))


def program_q():
    """Q of [12.6]."""
    let = ("let", "q", 3, ({"a": 1, "k": 1}, 0), ("give", [({"q": 1}, 0)]))
    first = ("first", "k", 3, [("by", 3, ({"a": 1, "k": 1}, 0))], let, ("none",))
    return Program(["a"], ["x"], ("if", ("row", ({"a": 1}, 0)), first, ("none",)))


def deep(thing, many, wrap):
    """A thing, wrapped many times."""
    for _ in range(many):
        thing = wrap(thing)
    return thing


def objects():
    """Objects of all the kinds that [2.2] calls ANY OBJECT; none is a term, test, body, dict of numbers, statement."""
    return [
        0, 1, -1, 10 ** 30, True, False, None, "", "a", "row", "none", "all", "give", (), [], {},
        [[]], ((),), [{}], ({},), {"a": True}, {"a": None}, {1: 1}, {None: 1}, {(): 1}, {"all": 1},
        len, objects, lambda: 0, Wish, wish(), System([], []), program_p(),
        ["row"], ("row", None), ("row", ()), ("row", ({}, True)), ("row", ({}, 0), 0), ("row", ({"A": 1}, 0)),
        ("row", ({"x": False}, 0)), ("row", [{"x": "1"}, 0]), ("row", {"x": 1}), ("row", [({}, 0)]),
        ("same", ({}, None)), ("same", 1, ({}, 0)), ("by", ({}, 0)), ("by", 0, ({}, 0)), ("by", -1, ({}, 0)),
        ("by", True, ({}, 0)), ("by", 1, ({}, 0), 0), ("by", "1", ({}, 0)), ("by", 1, ({"not": 1}, 0)),
        ("not",), ("not", None), ("not", X, X), ("not", [X]), ("all",), ("all", X), ("all", "", ""), ("all", ""),
        ("all", "xx"), ("all", {}), ("any", None), ("any", [X, None]), ("any", [X], [X]), ("ALL", []), ("some", []),
        (wish(), wish()), (len, []), ((), ()), ([], []), ({}, {}), (None, None), ("all", [wish()]),
        deep(1, 50, lambda thing: [thing]), deep(None, 50, lambda thing: ("not", thing)),
        deep(X, 48, lambda thing: ("all", [thing, 0])), deep({}, 50, lambda thing: {"a": thing}),
        deep(True, 25, lambda thing: ("any", [thing])),
    ]


def swapped(thing):
    """The same thing with lists for tuples and tuples for lists, and dicts the other way about."""
    if isinstance(thing, list):
        return tuple([swapped(part) for part in thing])
    if isinstance(thing, tuple):
        return [swapped(part) for part in thing]
    if isinstance(thing, dict):
        return {key: swapped(thing[key]) for key in reversed(list(thing))}
    return thing


def holders(thing):
    """All lists and dicts within a thing, itself too."""
    if isinstance(thing, dict):
        return [thing] + [held for part in thing.values() for held in holders(part)]
    if isinstance(thing, (list, tuple)):
        own = [thing] if isinstance(thing, list) else []
        return own + [held for part in thing for held in holders(part)]
    return []


def spoil(thing):
    """Change each list and each dict within a thing."""
    for held in holders(thing):
        if isinstance(held, dict):
            held["spoiled"] = "spoiled"
        else:
            held.append("spoiled")


def shape(thing):
    """What tells lists, tuples and the order of dicts apart, which == of numbers and dicts does not."""
    if isinstance(thing, dict):
        return ("dict", [(key, shape(thing[key])) for key in thing])
    if isinstance(thing, (list, tuple)):
        return (type(thing).__name__, [shape(part) for part in thing])
    return (type(thing).__name__, thing)


def any_term(chance, names, most=4):
    coefficients = {name: chance.randint(-most, most) for name in chance.sample(names, chance.randint(0, len(names)))}
    return (coefficients, chance.randint(-most, most))


def any_test(chance, names, most=4):
    kind = chance.choice(["row", "same", "by"])
    if kind == "by":
        return ("by", chance.randint(1, 6), any_term(chance, names, most))
    return (kind, any_term(chance, names, most))


def any_body(chance, names, depth):
    kind = chance.choice(["test", "not", "all", "any"]) if depth > 0 else "test"
    if kind == "test":
        return any_test(chance, names)
    if kind == "not":
        return ("not", any_body(chance, names, depth - 1))
    return (kind, [any_body(chance, names, depth - 1) for _ in range(chance.randint(0, 3))])


def any_statement(chance, known, outputs, depth):
    kinds = ["give", "give", "none"] if depth == 0 else ["give", "let", "most", "if", "first", "none"]
    kind = chance.choice(kinds)
    if kind == "give":
        return ("give", [any_term(chance, known) for _ in outputs])
    if kind == "none":
        return ("none",)
    if kind == "if":
        branches = [any_statement(chance, known, outputs, depth - 1) for _ in range(2)]
        return ("if", any_test(chance, known), branches[0], branches[1])
    name = [new for new in ["p", "q", "r", "s", "t", "u", "v", "w"] if new not in known + outputs][0]
    inner = any_statement(chance, known + [name], outputs, depth - 1)
    if kind == "let":
        return ("let", name, chance.randint(1, 5), any_term(chance, known), inner)
    if kind == "most":
        return ("most", name, [any_term(chance, known) for _ in range(chance.randint(1, 3))], inner)
    tests = [any_test(chance, known + [name]) for _ in range(chance.randint(0, 2))]
    return ("first", name, chance.randint(1, 5), tests, inner, any_statement(chance, known, outputs, depth - 1))


def any_program(chance, depth=5):
    inputs = ["b", "a", "c"][:chance.randint(0, 3)]
    outputs = ["y", "x"][:chance.randint(0, 2)]
    return Program(inputs, outputs, any_statement(chance, inputs, outputs, depth))


def chances(many, seed=0):
    """So many sources of chance, the same ones each time."""
    return [random.Random(1000 * seed + number) for number in range(many)]
