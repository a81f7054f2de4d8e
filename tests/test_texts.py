"""[4.1] to [4.4], [4.6]: pieces, sums, tests, texts of wishes."""

import re
import unittest

from outofwishes.bodies import holds
from outofwishes.errors import BadWish
from outofwishes.texts import read_wish, text_fault, written
from outofwishes.wishes import Wish
from tests.samples import NAMES, NO_NAMES, WORDS, any_body, chances, deep, objects, shape, spoil, wish

SIGNS = ["<", "<=", "=", ">", ">="]
HEAD = "of a, b give x: "


def body_of(text):
    return read_wish(HEAD + text).body()


def term_of(text):
    """What a sum reads as."""
    return body_of("1 divides " + text)[2]


class Pieces(unittest.TestCase):
    def test_blanks_and_line_feeds(self):
        told = Wish(["a"], ["x"], ("row", ({"x": 1, "a": -10}, -1)))
        for text in ["of a give x:10*a<x", "\n of\na\n\n give  x :10 * a<x \n", "of a give x:10*a\n< x", " of a give x:10*a<x\n "]:
            self.assertEqual(read_wish(text), told)
        self.assertIsNone(read_wish("of a give x:1 0 * a < x"))
        self.assertIsNone(read_wish("ofa give x: 10 * a < x"))

    def test_longer_signs_ahead(self):
        self.assertEqual(body_of("x<=a"), ("row", ({"a": 1, "x": -1}, 0)))
        self.assertEqual(body_of("x>=-a"), ("row", ({"a": 1, "x": 1}, 0)))
        self.assertEqual(text_fault(HEAD + "x < = a")[0], len(HEAD) + 4)
        self.assertEqual(text_fault(HEAD + "x =< a")[0], len(HEAD) + 3)
        self.assertEqual(text_fault(HEAD + "x <<= a")[0], len(HEAD) + 3)

    def test_runs_and_signs_that_can_stand_nowhere(self):
        runs = ["01", "00", "1a", "3x", "abcdefghi", "0x1", "a1b2c3d4e"]
        signs = ["\t", "\r", "A", "_", ".", "%", "/", "!", "[", "\u00e9", "\u0663", "\u00a0", "\x00", "'"]
        for piece in runs + signs:
            for ahead in ["", "of ", "of a give ", HEAD, HEAD + "x + ", HEAD + "x ", HEAD + "(x = 1) and ", HEAD + "(x = 1"]:
                ahead = ahead + " "
                self.assertEqual(text_fault(ahead + piece), (len(ahead), text_fault(ahead)[1]), (ahead, piece))
                self.assertIsNone(read_wish(ahead + piece))

    def test_names(self):
        for name in NAMES:
            self.assertEqual(read_wish(f"of {name} give nothing: {name} = 0"), Wish([name], [], ("same", ({name: 1}, 0))))
        for name in NO_NAMES:
            if name not in ["", "a b", " a", "a\n"]:
                self.assertEqual(text_fault(f"of c, {name} give nothing: 0 = 0")[0], 6 + ("a" == name[0] and name[1] in "B_-\u0662"), name)

    def test_words_are_no_names(self):
        for word in WORDS:
            self.assertEqual(text_fault(f"of c, {word}"), (6, ["new"]))
            self.assertEqual(text_fault(HEAD + f"x = {word} + 1"), (len(HEAD) + 4, ["-", "name", "number"]))


class SumsAndTests(unittest.TestCase):
    def test_sums(self):
        for text, told in [
            ("x", ({"x": 1}, 0)), ("-x", ({"x": -1}, 0)), ("0", ({}, 0)), ("-0", ({}, 0)), ("- 7", ({}, -7)),
            ("3 * x", ({"x": 3}, 0)), ("-3*x+2*b-a+5", ({"a": -1, "b": 2, "x": -3}, 5)), ("x - x", ({}, 0)),
            ("x + x + x - 1 - 1", ({"x": 3}, -2)), ("0 * x + 1 * a", ({"a": 1}, 0)), ("5 - 7 + x - 2 * x", ({"x": -1}, -2)),
            ("1000000 * x + 10000000000000000", ({"x": 10 ** 6}, 10 ** 16)),
        ]:
            self.assertEqual(shape(term_of(text)), shape(told), text)

    def test_no_sums(self):
        for text in ["", "+ x", "- - x", "x + - a", "x * 3", "3 x", "3 * 4", "x *", "* x", "3 * -x", "-3 * (x)", "x a", "2 * 2 * x"]:
            self.assertIsNone(read_wish(HEAD + "1 divides " + text), text)

    def test_tests(self):
        for text, told in [
            ("2 * x <= a - 1", ("row", ({"a": 1, "x": -2}, -1))), ("2 * x < a - 1", ("row", ({"a": 1, "x": -2}, -2))),
            ("2 * x >= a - 1", ("row", ({"a": -1, "x": 2}, 1))), ("2 * x > a - 1", ("row", ({"a": -1, "x": 2}, 0))),
            ("2 * x = a - 1", ("same", ({"a": -1, "x": 2}, 1))), ("a - 1 = 2 * x", ("same", ({"a": 1, "x": -2}, -1))),
            ("3 divides a - x", ("by", 3, ({"a": 1, "x": -1}, 0))), ("1 divides 0", ("by", 1, ({}, 0))),
            ("3 + x = 0", ("same", ({"x": 1}, 3))), ("-3 < x", ("row", ({"x": 1}, 2))), ("3 * x < 3", ("row", ({"x": -3}, 2))),
            ("10000000000000000 divides x", ("by", 10 ** 16, ({"x": 1}, 0))), ("0 < 0", ("row", ({}, -1))),
        ]:
            self.assertEqual(shape(body_of(text)), shape(told), text)

    def test_no_tests(self):
        for text in ["x", "x = ", "= x", "x = a = b", "x < a < b", "0 divides x", "-3 divides x", "x divides 3", "1 + 1 divides x",
                     "2 * x divides a", "2 divides", "2 divides x = 0", "2 divides (x)", "(x) = 1", "x ! a", "x => a"]:
            self.assertIsNone(read_wish(HEAD + text), text)


class Bodies(unittest.TestCase):
    def test_put_together(self):
        x, a, b = ("same", ({"x": 1}, 0)), ("same", ({"a": 1}, 0)), ("same", ({"b": 1}, 0))
        for text, told in [
            ("x = 0 and a = 0", ("all", [x, a])), ("x = 0 or a = 0 or b = 0", ("any", [x, a, b])),
            ("(x = 0)", x), ("((x = 0))", x), ("not x = 0", ("not", x)), ("not not(x=0)", ("not", ("not", x))),
            ("not x = 0 and a = 0", ("all", [("not", x), a])), ("not (x = 0 and a = 0)", ("not", ("all", [x, a]))),
            ("(x = 0 and a = 0) and b = 0", ("all", [("all", [x, a]), b])), ("x = 0 or (a = 0 or b = 0)", ("any", [x, ("any", [a, b])])),
            ("all()", ("all", [])), ("any ( )", ("any", [])), ("all(x = 0)", ("all", [x])), ("any((x = 0))", ("any", [x])),
            ("all(x = 0 or a = 0)", ("all", [("any", [x, a])])), ("any(all()) and not any()", ("all", [("any", [("all", [])]), ("not", ("any", []))])),
            ("(x = 0 or a = 0) and (b = 0 or x = 0)", ("all", [("any", [x, a]), ("any", [b, x])])),
        ]:
            self.assertEqual(body_of(text), told, text)

    def test_no_bodies(self):
        for text in ["", "x = 0 and", "and x = 0", "x = 0 and a = 0 or b = 0", "x = 0 or a = 0 and b = 0", "x = 0 x = 0", "()",
                     "(x = 0", "x = 0)", "not", "all", "all x = 0", "all(x = 0, a = 0)", "any(", "not and x = 0", "x = 0, a = 0",
                     "(x = 0 and a = 0 or b = 0)", "all() all()", "x = 0;", "x = 0 and not"]:
            self.assertIsNone(read_wish(HEAD + text), text)

    def test_headers(self):
        told = read_wish("of nothing give nothing: 0 = 0")
        self.assertEqual((told.inputs(), told.outputs()), ([], []))
        self.assertEqual(read_wish("of b, a give nothing: 0 = 0").inputs(), ["b", "a"])
        self.assertEqual(read_wish("of nothing give y, x : 0 = 0").outputs(), ["y", "x"])
        for text in ["", "of", "give x: 0 = 0", "of give x: 0 = 0", "of a give: 0 = 0", "of a, give x: 0 = 0", "of a b give x: 0 = 0",
                     "of nothing, a give x: 0 = 0", "of a, a give x: 0 = 0", "of a give x, a: 0 = 0", "of a give x 0 = 0",
                     "of a give x; 0 = 0", "of a give x: y = 0", "of a give x by 0 = 0", "of a give x, x: 0 = 0"]:
            self.assertIsNone(read_wish(text), text)

    def test_deep_texts(self):
        for text in [deep("x = 0", 20, lambda one: f"({one})"), deep("x = 0", 20, lambda one: f"not {one}"),
                     deep("x = 0", 20, lambda one: f"not (a = 0 or any({one}))")]:
            self.assertIsNotNone(read_wish(HEAD + text))
        nots = deep("x = 0", 20, lambda one: f"not {one}")
        self.assertEqual(body_of(nots), deep(("same", ({"x": 1}, 0)), 20, lambda one: ("not", one)))


class Written(unittest.TestCase):
    def test_the_example(self):
        text = "of a, b give x, y: 3 * x + 5 * y = a and (2 * x <= b + y or 4 divides -x + y)"
        self.assertEqual(written(wish()), text)
        self.assertEqual(read_wish(text=text), wish())
        self.assertEqual(text_fault(text[:-1]), (76, [")", "+", "-", "or"]))
        self.assertEqual(text_fault("of a give a: 0 <= a"), (10, ["new", "nothing"]))

    def test_tests(self):
        for body, text in [
            (("row", ({}, 0)), "0 <= 0"), (("row", ({}, -3)), "3 <= 0"), (("row", ({}, 3)), "0 <= 3"),
            (("row", ({"x": 1, "b": -1, "a": -2}, -3)), "2 * a + b + 3 <= x"), (("row", ({"x": 1, "a": 2}, 3)), "0 <= 2 * a + x + 3"),
            (("same", ({}, 0)), "0 = 0"), (("same", ({}, 3)), "3 = 0"), (("same", ({}, -3)), "0 = 3"),
            (("same", ({"x": -1, "a": 2}, 3)), "2 * a + 3 = x"), (("same", ({"x": -1, "a": -2}, -3)), "0 = 2 * a + x + 3"),
            (("by", 1, ({}, 0)), "1 divides 0"), (("by", 7, ({"x": -2, "a": -1, "b": 3}, -4)), "7 divides -a + 3 * b - 2 * x - 4"),
            (("by", 2, ({}, -4)), "2 divides -4"), (("by", 2, ({"a": -5}, 1)), "2 divides -5 * a + 1"),
            (("by", 2, ({"x": 1, "a": 0}, 0)), "2 divides x"),
        ]:
            self.assertEqual(written(Wish(["a", "b"], ["x"], body)), HEAD + text)
            self.assertEqual(shape(body_of(text)), shape(Wish(["a", "b"], ["x"], body).body()))

    def test_brackets(self):
        t = ("same", ({}, 0))
        for body, text in [
            (("not", t), "not 0 = 0"), (("not", ("not", t)), "not not 0 = 0"), (("all", []), "all()"), (("any", []), "any()"),
            (("all", [t]), "all(0 = 0)"), (("any", [("not", t)]), "any(not 0 = 0)"), (("all", [t, t]), "0 = 0 and 0 = 0"),
            (("any", [t, t, t]), "0 = 0 or 0 = 0 or 0 = 0"), (("not", ("any", [t, t])), "not (0 = 0 or 0 = 0)"),
            (("not", ("any", [t])), "not any(0 = 0)"), (("not", ("all", [])), "not all()"),
            (("all", [("all", [t, t]), t]), "(0 = 0 and 0 = 0) and 0 = 0"), (("any", [t, ("all", [t, t])]), "0 = 0 or (0 = 0 and 0 = 0)"),
            (("all", [("any", [t, t])]), "all(0 = 0 or 0 = 0)"), (("any", [("all", [("any", [t, t])])]), "any(all(0 = 0 or 0 = 0))"),
            (("all", [("all", [("any", [t, t])]), ("any", [])]), "all(0 = 0 or 0 = 0) and any()"),
            (("all", [("not", ("not", ("all", [t, t]))), t]), "not not (0 = 0 and 0 = 0) and 0 = 0"),
        ]:
            self.assertEqual(written(Wish([], [], body)), "of nothing give nothing: " + text)

    def test_bad_wish(self):
        for thing in objects():
            if not isinstance(thing, Wish):
                with self.assertRaises(BadWish) as caught:
                    written(thing)
                self.assertIs(caught.exception.wish, thing)
        self.assertEqual(written(wish=Wish([], [], ("all", []))), "of nothing give nothing: all()")

    def test_there_and_back(self):
        for chance in chances(300):
            made = Wish(["b", "a"], ["y", "x"], any_body(chance, ["a", "b", "x", "y"], 4))
            self.assertEqual(read_wish(written(made)), made)
            self.assertEqual(shape(read_wish(written(made)).body()), shape(made.body()))
            self.assertIsNone(text_fault(written(made)))
            self.assertEqual(written(read_wish(written(made))), written(made))

    def test_told_wishes_do_not_hang_together(self):
        one, other = read_wish(written(wish())), read_wish(written(wish()))
        spoil(one.body())
        self.assertEqual((one, other), (wish(), wish()))


class Faults(unittest.TestCase):
    def test_no_strings(self):
        for thing in objects():
            if not isinstance(thing, str):
                self.assertEqual(shape(text_fault(thing)), shape((0, ["of"])))
                self.assertIsNone(read_wish(thing))
        self.assertEqual(text_fault(text=b"of"), (0, ["of"]))

    def test_places_and_sorts(self):
        signs = ["+", "-"] + SIGNS
        unit = ["(", "-", "all", "any", "name", "not", "number"]
        for text, place, sorts in [
            ("", 0, ["of"]), (" \n ", 3, ["of"]), ("off", 0, ["of"]), ("of", 2, ["new", "nothing"]), ("of ", 3, ["new", "nothing"]),
            ("of a", 4, [",", "give"]), ("of a,", 5, ["new"]), ("of a, a", 6, ["new"]), ("of a, nothing", 6, ["new"]),
            ("of nothing, b", 10, ["give"]), ("of a give", 9, ["new", "nothing"]), ("of a give x", 11, [",", ":"]),
            ("of a give x, a", 13, ["new"]), ("of a give nothing x", 18, [":"]), ("of a give x by", 12, [",", ":"]),
            (HEAD, len(HEAD), unit), (HEAD + "y", len(HEAD), unit), (HEAD + "x", len(HEAD) + 1, signs),
            (HEAD + "3", len(HEAD) + 1, ["*"] + signs + ["divides"]), (HEAD + "0 divides x", len(HEAD) + 2, ["*"] + signs),
            (HEAD + "0", len(HEAD) + 1, ["*"] + signs), (HEAD + "-3", len(HEAD) + 2, ["*"] + signs),
            (HEAD + "-3 divides x", len(HEAD) + 3, ["*"] + signs), (HEAD + "3 *", len(HEAD) + 3, ["name"]),
            (HEAD + "3 * 3", len(HEAD) + 4, ["name"]), (HEAD + "3 * x", len(HEAD) + 5, signs), (HEAD + "-", len(HEAD) + 1, ["name", "number"]),
            (HEAD + "1 + 2", len(HEAD) + 5, ["*"] + signs), (HEAD + "x +", len(HEAD) + 3, ["name", "number"]),
            (HEAD + "x = ", len(HEAD) + 4, ["-", "name", "number"]), (HEAD + "x = 0 x", len(HEAD) + 6, ["", "*", "+", "-", "and", "or"]),
            (HEAD + "x = a ", None, None), (HEAD + "x = a = b", len(HEAD) + 6, ["", "+", "-", "and", "or"]), (HEAD + "x = a and", len(HEAD) + 9, unit),
            (HEAD + "x = a and b = 1 or", len(HEAD) + 16, ["", "*", "+", "-", "and"]), (HEAD + "x = a or x = b)", len(HEAD) + 14, ["", "+", "-", "or"]),
            (HEAD + "3 divides", len(HEAD) + 9, ["-", "name", "number"]), (HEAD + "(", len(HEAD) + 1, unit), (HEAD + "( )", len(HEAD) + 2, unit),
            (HEAD + "(x = a", len(HEAD) + 6, [")", "+", "-", "and", "or"]), (HEAD + "(x = a)", None, None), (HEAD + "(x = a) x", len(HEAD) + 8, ["", "and", "or"]),
            (HEAD + "not", len(HEAD) + 3, unit), (HEAD + "all", len(HEAD) + 3, ["("]), (HEAD + "any x", len(HEAD) + 4, ["("]),
            (HEAD + "all(", len(HEAD) + 4, ["(", ")", "-", "all", "any", "name", "not", "number"]), (HEAD + "all()", None, None),
            (HEAD + "all() all()", len(HEAD) + 6, ["", "and", "or"]), (HEAD + "not all(x = 1 or a = 1", len(HEAD) + 22, [")", "*", "+", "-", "or"]),
            ("of nothing give nothing: ", 25, ["(", "-", "all", "any", "not", "number"]), ("of nothing give nothing: 3 * x", 27, signs + ["divides"]),
            ("of a give nothing: ", 19, unit), ("of nothing give a: 3", 20, ["*"] + signs + ["divides"]),
            ("of nothing give nothing: 3 = 3 * 3", 31, ["", "+", "-", "and", "or"]), ("of nothing give nothing: -x", 26, ["number"]),
        ]:
            told = None if place is None else (place, sorts)
            self.assertEqual(shape(text_fault(text)), shape(told), text)
            self.assertEqual(read_wish(text) is None, place is not None, text)

    def test_cut_short_anywhere(self):
        text = written(wish())
        for end in range(len(text)):
            fault, read = text_fault(text[:end]), read_wish(text[:end])
            self.assertEqual(fault is None, read is not None)
            # A word that is cut short is another piece, and that one cannot stand where it starts.
            word = re.search("[a-z]*$", text[:end]).start()
            cut = word < end and text[end].isalpha()
            if fault is not None:
                self.assertEqual(fault[0], word if cut else end, text[:end])

    def test_very_long_numbers(self):
        number = "9" * 3900
        self.assertEqual(read_wish(f"of a give nothing: a = {number}").body()[1][1], 1 - 10 ** 3900)
        self.assertEqual(text_fault("of a give x: a = " + "9" * 9000 + " )"), (9018, ["", "*", "+", "-", "and", "or"]))


def as_python(text):
    """A body text as an expression of Python, told by pieces: another way to say what it means."""
    pieces = re.findall(r"[a-z0-9]+|<=|>=|[^ \n]", text) + [""]
    out, ends, divisor = [], [], None
    for at, piece in enumerate(pieces):
        if divisor is not None and piece in ["and", "or", ")", ""]:
            out.append(f") % {divisor} == 0")
            divisor = None
        if pieces[at + 1:at + 2] == ["divides"]:
            divisor = piece
        elif piece == "divides":
            out.append("(")
        elif piece == "(":
            many = pieces[at - 1] in ["all", "any"]
            out.append("([" if many else "(")
            ends.append("])" if many else ")")
        else:
            out.append(ends.pop() if piece == ")" else "==" if piece == "=" else piece)
    return " ".join(out)


def any_sum_text(chance, names):
    parts = []
    for _ in range(chance.randint(1, 4)):
        number, name = str(chance.randint(0, 5)), chance.choice(names)
        parts.append(chance.choice([number, name, number + " * " + name]))
        parts.append(chance.choice([" + ", " - ", "+", "\n-"]))
    return chance.choice(["", "-", "- "]) + "".join(parts[:-1])


def any_text(chance, names, depth):
    kind = chance.choice(["test", "by", "not", "word", "and", "or", "("]) if depth > 0 else chance.choice(["test", "by"])
    if kind == "test":
        return any_sum_text(chance, names) + f" {chance.choice(SIGNS)} " + any_sum_text(chance, names)
    if kind == "by":
        return f"{chance.randint(1, 5)} divides " + any_sum_text(chance, names)
    inner = [any_text(chance, names, depth - 1) for _ in range(chance.randint(2, 3))]
    if kind in ["and", "or"]:
        return f" {kind} ".join([f"({one})" for one in inner])
    return {"not": f"not ({inner[0]})", "word": chance.choice(["all", "any"]) + f"({chance.choice(['', inner[0]])})", "(": f"({inner[0]})"}[kind]


class Meaning(unittest.TestCase):
    def test_texts_mean_what_python_says(self):
        names = ["a", "b", "x"]
        for chance in chances(400):
            text = any_text(chance, names, 3)
            body = body_of(text)
            for _ in range(5):
                numbers = {name: chance.randint(-7, 7) for name in names}
                self.assertIs(holds(body, numbers), bool(eval(as_python(text), {}, dict(numbers))), text)
