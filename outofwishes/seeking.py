"""Numbers that are sought so that tests are so: sought names taken out, first by sames and bys, then by rows.

A row is a lower one of a name if the name's coefficient in it is above 0, an upper one if below.
"""

from math import gcd

from outofwishes.bodies import term_of
from outofwishes.flats import tight
from outofwishes.putting import put_in_term_over, put_in_test_over
from outofwishes.reduction import Reduction, nearest
from outofwishes.terms import less, names_of, scaled, sum_of, turned
from outofwishes.vectors import dot, unit_vectors

# How far aside two sought names are mixed; whatever is taken is right, this tells only where to look for the best.
FAR_ASIDE = 3


def coefficient_in(test, name):
    """A name's coefficient in a test."""
    return term_of(test)[0].get(name, 0)


def _key(term):
    """What terms with the same coefficients have in common."""
    return tuple([(name, term[0][name]) for name in names_of(term)])


def _strongest(tests):
    """Tight tests without the rows that another one says more of, None if two rows bar one another."""
    lowest = {}
    for test in tests:
        if test[0] == "row":
            key = _key(test[1])
            lowest[key] = min(test[1][1], lowest.get(key, test[1][1]))
    for test in tests:
        if test[0] == "row" and test[1][1] + lowest.get(_key(turned(test[1])), -test[1][1]) < 0:
            return None
    return [test for test in tests if test[0] != "row" or test[1][1] == lowest[_key(test[1])]]


def settled(tests):
    """Tests made tight, without what is said otherwise, too; None if they are seen never to be so."""
    found = []
    for test in tests:
        tightened = tight(test)
        if tightened is False:
            return None
        if tightened is not True and tightened not in found:
            found.append(tightened)
    return _strongest(found)


def _over_lowest(term, bottom):
    """The same fraction of a term with the lowest bottom."""
    divisor = gcd(bottom, term[1])
    for name in names_of(term):
        divisor = gcd(divisor, term[0][name])
    return (({name: term[0][name] // divisor for name in term[0]}, term[1] // divisor), bottom // divisor)


class Quest:
    """What is sought: numbers for sought names by which tests are so; the tests have known names besides.

    behind has pairs of a name and its rows, to be found in order once the sought names are, which then surely can be.
    ends has for each wanted name a term of sought, later and known names, over a bottom that divides it.
    """

    def __init__(self, tests, sought, behind, ends):
        self.tests = tests
        self.sought = sought
        self.behind = behind
        self.ends = ends

    def with_tests(self, tests, sought, behind):
        """The quest with other tests for other names; None if they are seen never to be so."""
        tests = settled(tests)
        return None if tests is None else Quest(tests, sought, behind, self.ends)

    def with_put(self, put, bottom, sought):
        """The quest with terms over a bottom put in for names; None if its tests are seen never to be so."""
        tests = settled([put_in_test_over(test, put, bottom) for test in self.tests])
        if tests is None:
            return None
        behind = [(name, [put_in_test_over(row, put, bottom) for row in rows]) for name, rows in self.behind]
        ends = {}
        for name in self.ends:
            term, below = self.ends[name]
            ends[name] = _over_lowest(put_in_term_over(term, put, bottom), below * bottom)
        return Quest(tests, sought, behind, ends)


def quest_for(tests, sought, wanted):
    """The quest for sought names by tests, in which some names are wanted; None if it is seen to be in vain."""
    tests = settled(tests)
    return None if tests is None else Quest(tests, sought, [], {name: (({name: 1}, 0), 1) for name in wanted})


def _parts_of(test, sought):
    """The coefficients other than 0 of sought names in a test; of a by those nearest to 0."""
    found = {}
    for name in sought:
        part = coefficient_in(test, name)
        if test[0] == "by":
            part -= test[1] * nearest(part, test[1])
        if part != 0:
            found[name] = part
    return found


def _mixed(parts):
    """The sought name with the least part, and the term to put in for it so that the other parts become less."""
    least = None
    for name in parts:
        if least is None or abs(parts[name]) < abs(parts[least]):
            least = name
    size = abs(parts[least])
    times = {name: nearest(parts[name], size) * (parts[least] // size) for name in parts if name != least}
    return (least, ({**{name: -times[name] for name in times}, least: 1}, 0))


def _inverse(number, many):
    """What, times a number, has the rest 1 by many; the one nearest to 0."""
    for turn in range(many // 2 + 1):
        for found in (turn, -turn):
            if (found * number - 1) % many == 0:
                return found
    return None


def _rests_of(term, many):
    """A term less a multiple of many, so that its numbers are nearest to 0."""
    rests = {name: term[0][name] - many * nearest(term[0][name], many) for name in term[0]}
    return (rests, term[1] - many * nearest(term[1], many))


def _with_one_part(quest, test, name, part):
    """The quest in which a same or a by is so that has, of the sought names, this one alone with a part but 0."""
    term = term_of(test)
    rest = ({other: term[0][other] for other in term[0] if other not in quest.sought}, term[1])
    if test[0] == "same":
        bottom = abs(part)
        value = scaled(rest, -(part // bottom))
        sought = [other for other in quest.sought if other != name]
    else:
        bottom = gcd(part, test[1])
        shift = scaled(rest, -_inverse(part // bottom, test[1] // bottom))
        value = sum_of([_rests_of(shift, test[1]), ({name: test[1]}, 0)])
        sought = quest.sought
    more = quest.with_put({name: value}, bottom, sought)
    if more is None or bottom == 1:
        return more
    return more.with_tests(more.tests + [("by", bottom, rest)], sought, more.behind)


def _with_so(quest, test):
    """The quest without one of its tests, a same or a by that has sought names; it is so at all that is sought then."""
    quest = Quest([other for other in quest.tests if other != test], quest.sought, quest.behind, quest.ends)
    parts = _parts_of(test, quest.sought)
    while len(parts) > 1:
        name, term = _mixed(parts)
        quest = quest.with_put({name: term}, 1, quest.sought)
        if quest is None:
            return None
        test = put_in_test_over(test, {name: term}, 1)
        parts = _parts_of(test, quest.sought)
    name = list(parts)[0]
    return _with_one_part(quest, test, name, parts[name])


def _equation(quest):
    """The first same, or else by, that has sought names; None if there is none."""
    for kind in ("same", "by"):
        for test in quest.tests:
            if test[0] == kind and len(_parts_of(test, quest.sought)) > 0:
                return test
    return None


def _without_equations(quest):
    """The quest with rows alone for its sought names."""
    while quest is not None:
        test = _equation(quest)
        if test is None:
            return quest
        quest = _with_so(quest, test)
    return None


def rows_of(tests, name):
    """The pair of the lower rows and the upper rows of a name."""
    lower = [test for test in tests if test[0] == "row" and coefficient_in(test, name) > 0]
    upper = [test for test in tests if test[0] == "row" and coefficient_in(test, name) < 0]
    return (lower, upper)


def _many_grays(part, most):
    """How many values a row may have, its part a name's, where rows on the other side, of parts to most, can fail."""
    return max(0, (part * most - part - most) // most + 1)


def _all_grays(parts, others):
    """How many values the rows of one side may have in all, by the parts of a name there and on the other side."""
    return sum([_many_grays(part, max(others)) for part in parts])


def _parting(parts):
    """How many quests come of a name beside one, and how many rows, by its parts in all rows."""
    lower = [part for part in parts if part > 0]
    upper = [-part for part in parts if part < 0]
    if len(lower) == 0 or len(upper) == 0:
        return (0, 0)
    return (min(_all_grays(lower, upper), _all_grays(upper, lower)), len(lower) * len(upper))


def _shadow(low, high, name):
    """The row by which, of a lower and an upper row of a name, some integer surely lies between."""
    above, below = coefficient_in(low, name), -coefficient_in(high, name)
    both = sum_of([scaled(low[1], below), scaled(high[1], above)])
    return ("row", less(both, (above - 1) * (below - 1)))


def _grays(lower, upper, name):
    """The sames of the rows of one side with the values that they can have where the shadows are not all so."""
    parts = [coefficient_in(row, name) for row in lower]
    others = [-coefficient_in(row, name) for row in upper]
    rows = lower
    if _all_grays(others, parts) < _all_grays(parts, others):
        parts, others, rows = others, parts, upper
    found = []
    for row, part in zip(rows, parts):
        for value in range(_many_grays(part, max(others))):
            found.append(("same", less(row[1], value)))
    return found


def shadows_of(tests, name):
    """The pair of the rows that surely let a name have a number, and of sames that are to be tried else.

    There is a number for the name just where these rows are so, or some one of these sames and all rows are.
    """
    lower, upper = rows_of(tests, name)
    if len(lower) == 0 or len(upper) == 0:
        return ([], [])
    return ([_shadow(low, high, name) for low in lower for high in upper], _grays(lower, upper, name))


def _parted(quest, name):
    """The quests, one of which is to be gone on with, in which a name is behind, or some row of it has a value."""
    rows, sames = shadows_of(quest.tests, name)
    lower, upper = rows_of(quest.tests, name)
    others = [test for test in quest.tests if coefficient_in(test, name) == 0]
    sought = [other for other in quest.sought if other != name]
    found = [quest.with_tests(others + rows, sought, [(name, lower + upper)] + quest.behind)]
    for same in sames:
        found.append(quest.with_tests(quest.tests + [same], quest.sought, quest.behind))
    return [one for one in found if one is not None]


def _turned_to(quest, matrix):
    """The quest with its sought names mixed: each step for one of them is told by a row of the matrix."""
    put = {}
    for at, name in enumerate(quest.sought):
        put[name] = ({other: row[at] for other, row in zip(quest.sought, matrix) if row[at] != 0}, 0)
    return quest.with_put(put, 1, quest.sought)


def _parts_in_rows(quest):
    """For each row its coefficients of the sought names."""
    rows = [test for test in quest.tests if test[0] == "row"]
    return [[coefficient_in(row, name) for name in quest.sought] for row in rows]


def _shortened(quest):
    """The quest with its sought names mixed so that their coefficients in the rows are small."""
    rows = _parts_in_rows(quest)
    units = unit_vectors(len(quest.sought))
    # The units behind see to it that no vector is made of others.
    vectors = [[parts[at] for parts in rows] + units[at] for at in range(len(units))]
    reduction = Reduction(vectors, units, units)
    reduction.run()
    return _turned_to(quest, reduction.along)


def _bases_of_two():
    """Small squares of determinant 1 or -1, each with another second row."""
    near = list(range(-FAR_ASIDE, FAR_ASIDE + 1))
    found = []
    for one in range(FAR_ASIDE + 1):
        for two in near:
            beside = [(abs(a) + abs(b), a, b) for a in near for b in near if abs(a * two - b * one) == 1]
            if len(beside) > 0 and (one > 0 or two > 0):
                _, a, b = min(beside)
                found.append([[a, b], [one, two]])
    return found


def _bases(many):
    """The ways in which so many sought names are mixed, of which the best is taken; the last one of each is parted."""
    if many == 2:
        return _bases_of_two()
    units = unit_vectors(many)
    return [units[:at] + units[at + 1:] + [units[at]] for at in range(many)]


def _well_turned(quest):
    """The quest with its sought names mixed so that it is parted by the last one into the fewest."""
    best = None
    rows = _parts_in_rows(quest)
    for matrix in _bases(len(quest.sought)):
        parting = _parting([dot(matrix[-1], row) for row in rows])
        found = (parting, sum([abs(number) for row in matrix for number in row]))
        if best is None or found < best[0]:
            best = (found, matrix)
    return _turned_to(quest, best[1])


def leaves(quest, few):
    """Quests with rows alone for at most so many sought names; of what is sought some one of them finds some."""
    found = []
    ahead = [quest]
    while len(ahead) > 0:
        one = _without_equations(ahead.pop())
        if one is not None and len(one.sought) <= few:
            found.append(one)
        elif one is not None:
            if len(one.sought) > 1:
                one = _well_turned(_shortened(one))
            ahead = ahead + list(reversed(_parted(one, one.sought[-1])))
    return found
