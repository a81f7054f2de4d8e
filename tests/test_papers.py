"""[8.1], [8.2], [8.4]: papers, and where a thing that is none is wrong."""

import unittest

from outofwishes.errors import BadSystem
from outofwishes.flats import flat
from outofwishes.papers import flaw, is_paper
from outofwishes.wholes import paper_of, point_of
from outofwishes.wishes import System
from tests.checks import any_system, bent, objects_to_refuse, paper_flaw, parts_of, some_bent
from tests.samples import X, Y, chances, deep, objects, shape, swapped

XY = ["x", "y"]
NO, ONE, THIRD, HALF = (0, 1), (1, 1), (1, 3), (1, 2)
ALONG = ({"x": 1, "y": -1}, 0)


def row(x, y, constant):
    return ("row", ({"x": x, "y": y}, constant))


def strip(low, high):
    """S of [8.4], and with other constants."""
    return System(XY, [row(3, -3, low), row(-3, 3, high)])


S_PAPER = ("span", ALONG, [THIRD, NO], [NO, THIRD], [])
ODD = System(["x"], [row(1, 0, -1), row(-1, 0, 1), ("by", 2, ({"x": 1}, 0))])
ODD_PAPER = ("span", ({"x": 1}, 0), [ONE, NO, NO], [NO, ONE, NO], [("gauge", [NO, NO, HALF, (-1, 2)])])


def with_part(paper, way, part):
    """A paper with another part at a way."""
    if not way:
        return part
    papers = list(paper[-1])
    papers[way[0]] = with_part(papers[way[0]], way[1:], part)
    return (*paper[:-1], papers)


def papers_at_random(many, seed):
    """Pairs of a system at random and a paper of it."""
    for chance in chances(many, seed):
        system = any_system(chance)
        paper = paper_of(system)
        if paper is not None:
            yield chance, system, paper


class TheExample(unittest.TestCase):
    def test_strips(self):
        self.assertIs(is_paper(strip(-1, 2), S_PAPER), True)
        self.assertIsNone(flaw(strip(-1, 2), S_PAPER))
        self.assertIs(is_paper(strip(-1, 6), S_PAPER), False)
        self.assertEqual(shape(flaw(strip(-1, 6), S_PAPER)), shape([]))
        self.assertIsNone(point_of(strip(-1, 2)))
        self.assertIsNotNone(point_of(strip(-1, 6)))

    def test_gauges(self):
        system = System(XY, [("same", ({"x": 3, "y": 6}, -1))])
        self.assertIs(is_paper(system, ("gauge", [THIRD])), True)
        self.assertIs(is_paper(ODD, ODD_PAPER), True)
        self.assertIs(is_paper(thing=swapped(ODD_PAPER), system=ODD), True)
        for told, asked in [(paper_of(ODD), ODD), (paper_of(system), system), (paper_of(strip(-1, 2)), strip(-1, 2))]:
            self.assertIsNone(paper_flaw(asked, told))
            self.assertIsNone(flaw(thing=told, system=asked))


class TheFourKinds(unittest.TestCase):
    def right(self, system, thing):
        self.assertIs(is_paper(system, thing), True, thing)
        self.assertIsNone(flaw(system, thing))
        self.assertIsNone(paper_flaw(system, thing))

    def wrong(self, system, thing, way=()):
        self.assertIs(is_paper(system, thing), False, thing)
        self.assertEqual(shape(flaw(system, thing)), shape(list(way)), thing)
        self.assertEqual(paper_flaw(system, thing), list(way))

    def test_sums_and_gauges(self):
        by = ("by", 6, ({"x": 2}, 1))
        system = System(XY, [X, ("same", ({"y": 2}, 3)), by, row(-1, 0, -1)])
        for right in [("sum", [ONE, NO, NO, ONE]), ["sum", ([2, 2], (0, 7), (0, 6), (4, 4))], ("gauge", [NO, HALF, NO, NO]), ("gauge", [(0, 5), (-3, 2), (7, 1), NO]), ("gauge", [NO, NO, HALF, NO]), ("gauge", [NO, HALF, THIRD, NO][:2] + [(2, 2), NO])]:
            self.right(system, right)
        for wrong in [
            ("sum", [ONE, NO, NO, NO]), ("sum", [NO, NO, ONE, NO]), ("sum", [ONE, NO, (1, 6), ONE]), ("sum", [ONE, NO, NO, ONE, NO]), ("sum", [ONE, NO, NO]), ("sum", [(-1, 1), NO, NO, (-1, 1)]),
            ("gauge", [HALF, HALF, NO, NO]), ("gauge", [NO, THIRD, NO, NO]), ("gauge", [NO, NO, (1, 4), NO]), ("gauge", [NO, NO, (1, 6), NO]), ("gauge", [NO, ONE, NO, NO]), ("gauge", [NO, HALF, HALF, NO]),
            ("sum", [ONE, NO, NO, ONE], []), ("sums", [ONE, NO, NO, ONE]), ("gauge", [NO, HALF, NO, NO, NO]), ("sum", ((1, 1), (0, 1), (0, 1), (1, 0))), ("sum", [ONE, NO, NO, (True, 1)]),
            ("sum", [ONE, NO, NO, (-1, -1)]), ("sum", [ONE, NO, NO, (1, True)]), ("sum", [1, 0, 0, 1]), ("sum", {}), ("gauge",), (["sum"], [ONE, NO, NO, ONE]), {"sum": []},
        ]:
            self.wrong(system, wrong)

    def test_spans(self):
        system = strip(-1, 6)
        gone = [("sum", [NO, NO, ONE])] * 2
        self.wrong(system, ("span", ALONG, [THIRD, NO], [NO, THIRD], gone), [0])
        for low, high in [([(-1, 3), NO], [NO, THIRD]), ([THIRD, NO], [NO, NO]), ([HALF, NO], [NO, HALF]), ([NO, THIRD], [THIRD, NO]), ([THIRD], [NO, THIRD]), ([THIRD, NO, NO], [NO, THIRD]), (None, [NO, THIRD])]:
            self.wrong(strip(-1, 2), ("span", ALONG, low, high, []))
        for term in [({"x": 1}, 0), ({"x": 1, "y": -1}, True), ({"x": -1, "y": 1}, 0), ({"x": 2, "y": -2}, 0), None, ({"x": 1, "y": -1, "z": 1}, 0), ({"x": 1, "y": -1},), ({}, 0)]:
            self.wrong(strip(-1, 2), ("span", term, [THIRD, NO], [NO, THIRD], []))
        for constant in [0, 5, -10 ** 20]:
            self.right(strip(-1, 2), ("span", ({"x": 1, "y": -1, "z": 0}, constant), [THIRD, NO], [NO, THIRD], []))
        for papers in [None, {}, "", [None], [S_PAPER], ()]:
            (self.right if papers == () else self.wrong)(strip(-1, 2), ("span", ALONG, [THIRD, NO], [NO, THIRD], papers))

    def test_values_that_never_come_and_the_constant(self):
        system = System(["x"], [("same", ({"x": 1}, -1)), ("by", 3, ({"x": 1}, 0))])
        for term, low, high in [(({"x": 2}, 7), 9, 9), (({"x": -2}, 1), -1, -1)]:
            times = term[0]["x"]
            gauge = ("gauge", [THIRD, (-1, 3), NO])
            self.right(system, ("span", term, [(times, 1), NO], [(-times, 1), NO], [gauge]))
        system = System(["x"], [row(2, 0, -1), row(-2, 0, 5), ("by", 2, ({"x": 1}, 0)), ("not", ("same", ({"x": 1}, -2)))])
        odd = [("gauge", [NO, NO, NO, (1, 2)]), ("gauge", [NO, NO, HALF, (-1, 4)])]
        two = ("any", 0, [("sum", [NO, NO, NO, (-1, 2), ONE]), ("sum", [NO, NO, NO, HALF, ONE])])
        self.right(system, ("span", ({"x": 2}, 0), [ONE, NO, NO], [NO, ONE, NO], [odd[0], odd[1], odd[0], two, odd[0]]))
        self.wrong(system, ("span", ({"x": 2}, 0), [ONE, NO, NO], [NO, ONE, NO], [odd[0], odd[1], two, odd[0]]))
        self.wrong(system, ("span", ({"x": 2}, 0), [ONE, NO, NO], [NO, ONE, NO], [odd[0], odd[1], two, odd[0], odd[0]]), [3])

    def test_anys(self):
        below = row(-1, 0, -1)
        system = System(XY, [("any", [("all", [below, ("any", [X, below])]), ("not", ("any", [("not", below), X]))]), X, ("any", [Y, X])])
        first = ("sum", [ONE, ONE])
        right = ("any", 0, [first, ("sum", [ONE, ONE, NO])])
        self.right(system, right)
        self.right(system, ("any", 1, [("any", 0, [("sum", [ONE, NO, ONE]), ("sum", [ONE, NO, ONE, NO])]), ("any", 0, [("sum", [ONE, NO, ONE]), ("sum", [ONE, NO, ONE, NO])])]))
        self.right(system, ("any", 0, [("any", 1, [("sum", [ONE, ONE, NO])] * 2), right[2][1]]))
        self.wrong(system, ("any", 0, [("any", 2, [first] * 2), right[2][1]]), [0])
        for index in [2, -1, True, False, None, "0", 10 ** 30, [0], 0.0]:
            self.wrong(system, ("any", index, right[2]))
        self.wrong(system, ("any", 1, right[2]), [0])
        for papers in [[], right[2][:1], right[2] * 2, None, {}, "ab"]:
            self.wrong(system, ("any", 0, papers))
        self.right(System([], [("any", [])]), ("any", 0, []))
        self.right(System(XY, [("not", ("by", 1, ({"x": 1}, 0)))]), ["any", 0, ()])
        self.wrong(System(XY, [("any", [X])]), ("any", 0, [first]))

    def test_of_any_object(self):
        for system in [strip(-1, 2), ODD, System([], []), System(XY, [("any", [X, Y])]), System([], [("any", [])])]:
            for thing in objects() + objects_to_refuse():
                self.assertIs(is_paper(system, thing), False)
                self.assertEqual(flaw(system, thing), paper_flaw(system, thing))
                self.assertIsNotNone(flaw(system, thing))

    def test_bad_system(self):
        for thing in objects():
            if not isinstance(thing, System):
                for ask in [is_paper, flaw]:
                    with self.assertRaises(BadSystem) as caught:
                        ask(thing, None)
                    self.assertIs(caught.exception.system, thing)


class Bent(unittest.TestCase):
    def test_papers_bent(self):
        many = 0
        for chance, system, paper in papers_at_random(150, 1):
            for other in some_bent(paper, chance, 40):
                way = paper_flaw(system, other)
                self.assertEqual(flaw(system, other), way, other)
                self.assertIs(is_paper(system, other), way is None)
                many += 1
        self.assertGreater(many, 2000)

    def test_each_bend_of_small_papers(self):
        for system, paper in [(strip(-1, 2), S_PAPER), (ODD, ODD_PAPER)]:
            for other in bent(paper):
                self.assertEqual(flaw(system, other), paper_flaw(system, other), other)

    def test_at_whatever_depth(self):
        for chance, system, paper in papers_at_random(200, 2):
            parts = parts_of(paper)
            way, part = chance.choice(parts)
            self.assertEqual(flaw(system, with_part(paper, way, None)), way)
            inner = part[-1]
            if part[0] in ("span", "any") and inner:
                for papers in [inner[1:], inner + inner[:1]]:
                    self.assertEqual(flaw(system, with_part(paper, way, (*part[:-1], papers))), way)
            if part[0] == "span":
                turned = ("span", part[1], part[3], part[2], part[4])
                self.assertEqual(flaw(system, with_part(paper, way, turned)), paper_flaw(system, with_part(paper, way, turned)))
            wrong = sorted([one for one, _ in chance.sample(parts, min(3, len(parts)))])
            for one in reversed(wrong):
                paper = with_part(paper, one, ("sum", None))
            self.assertEqual(flaw(system, paper), wrong[0])

    def test_ends_that_cross(self):
        system = System(["x"], [X, row(-1, 0, -1)])
        self.assertIs(is_paper(system, ("span", ({"x": 1}, 0), [ONE, NO], [NO, ONE], [])), True)
        self.assertIs(is_paper(system, ("span", ({"x": 1}, 0), [ONE, NO], [NO, ONE], [("sum", [ONE, ONE, NO])])), False)
        self.assertIs(is_paper(system, ("sum", [ONE, ONE])), True)
        system = System(["x"], [X, row(-1, 0, -10 ** 6)])
        self.assertIs(is_paper(system, ("span", ({"x": 1}, 0), [ONE, NO], [NO, ONE], ())), True)

    def test_a_point_lets_no_paper_stand(self):
        for chance in chances(100, 3):
            system = any_system(chance)
            if point_of(system) is not None:
                for _, _, paper in papers_at_random(3, 4):
                    self.assertEqual(flaw(system, paper), paper_flaw(system, paper))
                    self.assertIs(is_paper(system, paper), False)

    def test_judged_anew(self):
        paper = ["span", [{"x": 1, "y": -1}, 0], [[1, 3], NO], [NO, [1, 3]], []]
        self.assertIs(is_paper(strip(-1, 2), paper), True)
        for change, back in [((2, 0, 1), 2), ((1, 1), "0"), ((4,), None)]:
            holder = paper
            for step in change[:-1]:
                holder = holder[step]
            kept = holder[change[-1]]
            holder[change[-1]] = back
            self.assertIs(is_paper(strip(-1, 2), paper), False)
            holder[change[-1]] = kept
            self.assertIs(is_paper(strip(-1, 2), paper), True)

    def test_deep_and_wide(self):
        zero = ({}, 0)
        paper = S_PAPER
        for many in range(1, 51):
            paper = ("span", zero, [NO] * 2, [NO] * 2, [paper])
        lengthened = deep_paper(50)
        self.assertEqual(flaw(strip(-1, 2), paper), [0])
        self.assertIsNone(flaw(strip(-1, 2), lengthened))
        self.assertEqual(flaw(strip(-1, 2), deep_paper(50, ("sum", []))), [0] * 50)
        wide = System(["x"], [X, row(-1, 0, 1998), ("by", 2, ({"x": 2}, 1))])
        papers = [("gauge", [NO, NO, HALF, NO])] * 1999
        self.assertIsNone(flaw(wide, ("span", ({"x": 1}, 0), [ONE, NO, NO], [NO, ONE, NO], papers)))
        papers[1234] = ("gauge", [NO, NO, HALF])
        self.assertEqual(flaw(wide, ("span", ({"x": 1}, 0), [ONE, NO, NO], [NO, ONE, NO], papers)), [1234])
        self.assertEqual(flaw(wide, ("span", ({"x": 1}, 0), [ONE, NO, NO], [NO, ONE, NO], papers[1:])), [])
        self.assertEqual(len(flat(wide)[0]), 3)


def deep_paper(many, last=None):
    """S's paper within so many spans of nothing, each with one value."""
    ends = [NO] * (2 + many)
    paper = ("span", ALONG, [THIRD, NO] + ends[2:], [NO, THIRD] + ends[2:], []) if last is None else last
    return deep_spans(paper, many)


def deep_spans(paper, many):
    sizes = iter(range(1 + many, 1, -1))
    return deep(paper, many, lambda one: ("span", ({}, 0), *[[NO] * size for size in [next(sizes)] * 2], [one]))
