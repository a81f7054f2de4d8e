"""[4.4], [4.5]: faults, held against another reader: all ways in which a text can go on, one piece after another.

A way is what is still to come: a stack of symbols as nested pairs (symbol, rest). A symbol is a tuple; those that are
no pieces are put out of the way by their alternatives.
"""

import re
import unittest

from outofwishes.programtexts import program_fault, program_text, read_program
from outofwishes.texts import read_wish, text_fault, written
from outofwishes.wishes import Wish
from tests.samples import WORDS, any_body, any_program, chances

SIGNS = ["<=", ">=", "<", ">", "=", "+", "-", "*", ",", ":", ";", "(", ")", "{", "}"]


def word(text):
    return ("word", text)


def sums(known):
    part = [[("number",)]]
    if known:
        part += [[("name", known)], [("number",), word("*"), ("name", known)]]
    return part


def alternatives(symbol):
    """The lists of symbols that may stand in the place of one, None for a piece."""
    kind, more = symbol[0], symbol[1:]
    if kind == "wish":
        return [[word("of"), ("inputs", (), "wish")]]
    if kind == "program":
        return [[word("of"), ("inputs", (), "program")]]
    if kind == "inputs":
        return [[word("nothing"), word("give"), ("outputs", (), ()) + more[1:]], [("new", (), "input", (), more[1])]]
    if kind == "outputs":
        return [[word("nothing"), ("tail",) + more], [("new", more[0] + more[1], "output") + more]]
    if kind == "behind input":
        return [[word(","), ("new", more[0], "input") + more], [word("give"), ("outputs", more[0], (), more[1])]]
    if kind == "behind output":
        return [[word(","), ("new", more[0] + more[1], "output") + more], [("tail",) + more]]
    if kind == "tail" and more[2] == "wish":
        return [[word(":"), ("body", more[0] + more[1]), word("")]]
    if kind == "tail":
        return [[word("by"), ("statement", more[0], more[1]), word("")]]
    if kind in ["body", "unit", "and", "or", "test", "sum", "more", "part"]:
        return alternatives_of_body(kind, more[0])
    if kind in ["statement", "gives", "sums", "tests"]:
        return alternatives_of_statement(kind, *more)
    return None


def alternatives_of_body(kind, known):
    body, unit, test, one_sum = ("body", known), ("unit", known), ("test", known), ("sum", known)
    if kind == "body":
        return [[unit], [unit, ("and", known)], [unit, ("or", known)]]
    if kind in ["and", "or"]:
        return [[word(kind), unit], [word(kind), unit, (kind, known)]]
    if kind == "unit":
        found = [[test], [word("not"), unit], [word("("), body, word(")")]]
        for name in ["all", "any"]:
            found += [[word(name), word("("), word(")")], [word(name), word("("), body, word(")")]]
        return found
    if kind == "test":
        return [[one_sum, word(sign), one_sum] for sign in ["<=", ">=", "<", ">", "="]] + [[("positive",), word("divides"), one_sum]]
    if kind == "sum":
        return [[("part", known), ("more", known)], [word("-"), ("part", known), ("more", known)]]
    if kind == "more":
        return [[], [word("+"), ("part", known), ("more", known)], [word("-"), ("part", known), ("more", known)]]
    return sums(known)


def alternatives_of_statement(kind, known, outputs):
    statement, barred = ("statement", known, outputs), known + outputs
    if kind == "gives":
        return [[("sum", known)] + [symbol for _ in outputs[1:] for symbol in [word(","), ("sum", known)]]]
    if kind == "sums":
        return [[("sum", known)], [("sum", known), word(","), ("sums", known, outputs)]]
    if kind == "tests":
        return [[("test", known)], [("test", known), word(","), ("tests", known, outputs)]]
    other = [word("{"), statement, word("}")]
    return [
        [word("give"), ("gives", known, outputs)] if outputs else [word("give"), word("nothing")],
        [word("none")],
        [word("let"), ("new", barred, "let", known, outputs)],
        [word("most"), ("new", barred, "most", known, outputs)],
        [word("if"), ("test", known)] + other + [word("else")] + other,
        [word("first"), ("new", barred, "first", known, outputs)],
    ]


def behind_new(symbol, name):
    """The ways of what stands behind a new name."""
    kind, known, last = symbol[2:5]
    if kind == "input":
        return [[("behind input", known + (name,), last)]]
    if kind == "output":
        return [[("behind output", known, last + (name,), symbol[5])]]
    behind = ("statement", known + (name,), last)
    if kind == "let":
        start = [word("="), ("sum", known)]
        return [start + [word(";"), behind], start + [word("over"), ("positive",), word(";"), behind]]
    if kind == "most":
        return [[word("="), ("sums", known, last), word(";"), behind]]
    start = [word("below"), ("positive",), word("by")]
    rest = [word("{"), behind, word("}"), word("else"), word("{"), ("statement", known, last), word("}")]
    return [start + [word("nothing")] + rest, start + [("tests", known + (name,), last)] + rest]


def pushed(symbols, rest):
    for symbol in reversed(symbols):
        rest = (symbol, rest)
    return rest


def opened(ways):
    """All ways that have a piece ahead."""
    found, ahead = {}, list(ways)
    while ahead:
        way = ahead.pop()
        if way in found:
            continue
        told = alternatives(way[0])
        found[way] = told is None
        if told is not None:
            ahead += [pushed(symbols, way[1]) for symbols in told]
    return [way for way in found if found[way]]


def behind(way, piece):
    """The ways that are left of one when it takes a piece."""
    symbol, rest = way
    number = re.fullmatch("0|[1-9][0-9]*", piece)
    name = re.fullmatch("[a-z][a-z0-9]{0,7}", piece) and piece not in WORDS
    if symbol[0] == "new":
        return [pushed(symbols, rest) for symbols in behind_new(symbol, piece)] if name and piece not in symbol[1] else []
    takes = {"word": piece == symbol[-1], "number": number, "positive": number and piece != "0", "name": piece in symbol[-1]}
    return [rest] if takes[symbol[0]] else []


def sorts_of(ways):
    found = {way[0][1] if way[0][0] == "word" else way[0][0] for way in ways}
    return sorted(found - {"positive"} if "number" in found else found)


def fault_by_hand(text, kind):
    ways = [((kind,), None)]
    pieces = [(found.start(), found.group()) for found in re.finditer("[a-z0-9]+|<=|>=|[^ \n]", text)] + [(len(text), "")]
    for place, piece in pieces:
        ways = opened(ways)
        left = [more for way in ways for more in behind(way, piece)]
        if not left:
            return (place, sorts_of(ways))
        ways = left
    return None


def spoiled(chance, text):
    """A text with a few pieces or signs otherwise."""
    pieces = re.findall("[a-z0-9]+|<=|>=|[^ \n]", text)
    others = WORDS + SIGNS + ["a", "x", "p", "k", "zz", "0", "1", "2", "07", "1a", "A", "!"] + pieces
    for _ in range(chance.randint(1, 2)):
        at = chance.randrange(len(pieces) + 1)
        action = chance.choice(["put in", "leave out", "exchange", "double", "cut", "cut off", "turn"])
        if action == "put in":
            pieces.insert(at, chance.choice(others))
        elif action == "exchange":
            pieces[at:at + 1] = [chance.choice(others)]
        elif action == "leave out":
            pieces[at:at + 1] = []
        elif action == "double":
            pieces[at:at] = pieces[at:at + chance.randint(1, 6)]
        elif action == "turn":
            pieces[at:at + 2] = pieces[at:at + 2][::-1]
        elif action == "cut off":
            pieces = pieces[:at]
        else:
            pieces[at:] = [" ".join(pieces[at:])[:chance.randint(0, 12)]]
    return chance.choice([" ", "\n", "  "]).join(pieces)


class Faults(unittest.TestCase):
    def hold(self, text, kind):
        fault, read = (text_fault, read_wish) if kind == "wish" else (program_fault, read_program)
        told = fault(text)
        self.assertEqual(told, fault_by_hand(text, kind), text)
        self.assertIs(read(text) is None, told is not None, text)
        return told is None

    def test_wishes(self):
        good = 0
        for chance in chances(400):
            inputs, outputs = ["a", "b"][:chance.randint(0, 2)], ["x", "y"][:chance.randint(0, 2)]
            body = any_body(chance, inputs + outputs, chance.randint(0, 3))
            text = written(Wish(inputs, outputs, body))
            self.assertTrue(self.hold(text, "wish"))
            good += self.hold(spoiled(chance, text), "wish")
        self.assertGreater(good, 5)

    def test_programs(self):
        good = 0
        for chance in chances(400):
            text = program_text(any_program(chance, 4))
            self.assertTrue(self.hold(text, "program"))
            good += self.hold(spoiled(chance, text), "program")
        self.assertGreater(good, 5)

    def test_each_piece_behind_each_beginning(self):
        texts = {
            "wish": ["of a, b give x: not (2 * a = -x and 3 divides x + 1) or all(any() and 0 < x)", "of nothing give nothing: 0 = 0"],
            "program": [
                "of a give x by let p = 2 * a over 3; most m = p, 0; if p = m { none } else { first k below 3 by k < m { give k } else { give 1 } }",
                "of nothing give nothing by if 2 divides 3 { give nothing } else { none }",
            ],
        }
        others = WORDS + SIGNS + ["a", "x", "p", "k", "zz", "0", "1", "10"]
        for kind in texts:
            for text in texts[kind]:
                pieces = re.findall("[a-z0-9]+|<=|>=|[^ \n]", text)
                for end in range(len(pieces) + 1):
                    self.hold(" ".join(pieces[:end]), kind)
                    for piece in others:
                        self.hold(" ".join(pieces[:end] + [piece]), kind)
