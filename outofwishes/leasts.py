"""Just one of three: the least of a term at whole points, that it falls for ever, or that there is no point."""

from outofwishes.bodies import is_so, is_test_so, term_of
from outofwishes.flats import flat, flatten, plain
from outofwishes.kinds import is_list, is_numbers_of, is_whole
from outofwishes.papers import is_paper
from outofwishes.search import Search, answer_of, known_with, nothing_known, told_answer
from outofwishes.terms import change_along, less, turned, value_of
from outofwishes.vectors import Fact, dot, numbers_of, vector_of
from outofwishes.wishes import System, check_system, check_term, is_point


def _below(system, term, number):
    """The system with the row that a term comes to less than a number put behind its bodies."""
    return System(system.names(), system.bodies() + [("row", less(turned(term), 1 - number))])


def _case_at(system, point):
    """Tests that are all so at a point, such that the system's bodies are so wherever they are."""
    case, ahead = flat(system)
    while len(ahead) > 0:
        bodies = ahead.pop()
        some = [body for body in bodies if is_so(body, point)]
        flatten(some[0], case, ahead)
    return case


class Descent:
    """The search for the least of a term where the tests of a case, which has a point, are so."""

    def __init__(self, case, names, term):
        self.search = Search(names)
        self.order = names
        self.vector = vector_of(term[0], names)
        self.constant = term[1]
        facts, _ = self.search.marked(case, [])
        self.known, _ = known_with(nothing_known(len(names)), facts)
        self.end = self.known.tableau.lowest_of(self.vector)

    def whole_ray(self):
        """A ray along which the term falls and the case is kept, None if there is none."""
        if self.end.ray is None:
            return None
        return numbers_of([number * self.known.period for number in self.end.ray], self.order)

    def _point_to(self, number):
        """A point at which the term comes to a number at most, None if there is none."""
        down = [-part for part in self.vector]
        row = Fact(self.search.marks.fresh(), "row", 0, down, number - self.constant)
        known, proof = known_with(self.known, [row])
        if proof is not None:
            return None
        return self.search.decide(known, [])[0]

    def down_from(self, number, point):
        """The least number that the term comes to, and a point there; it comes to number at point."""
        top, bottom = self.end.least
        low = -(-top // bottom) + self.constant
        # The least is most often near the loose one: the first goals lie there, and go up ever faster.
        reach = 0
        while low < number:
            goal = min(low + reach, (low + number - 1) // 2)
            found = self._point_to(goal)
            if found is None:
                low = goal + 1
                reach = 2 * reach + 1
            else:
                number = dot(self.vector, found) + self.constant
                point = numbers_of(found, self.order)
        return (number, point)


def least_of(system, term):
    """The least of a term with a point and a paper, that it falls for ever from a point, or a paper of no point."""
    check_system(system)
    check_term(system, term)
    answer = answer_of(system)
    if answer.point is None:
        return ("none", told_answer(answer))
    while True:
        point = answer.point
        descent = Descent(_case_at(system, point), system.names(), term)
        ray = descent.whole_ray()
        if ray is not None:
            return ("falls", point, ray)
        number, point = descent.down_from(value_of(term, point), point)
        answer = answer_of(_below(system, term, number))
        if answer.point is None:
            return ("least", number, point, told_answer(answer))


def _is_test_kept(test, point, ray):
    """Whether a test is so at a point and stays so along a ray."""
    change = change_along(term_of(test), ray)
    if test[0] == "row":
        stays = change >= 0
    elif test[0] == "same":
        stays = change == 0
    else:
        stays = change % test[1] == 0
    return stays and is_test_so(test, point)


def _is_kept(body, point, ray):
    """Whether a body without "not" is kept from a point along a ray."""
    if body[0] == "all":
        return all([_is_kept(inner, point, ray) for inner in body[1]])
    if body[0] == "any":
        return any([_is_kept(inner, point, ray) for inner in body[1]])
    return _is_test_kept(body, point, ray)


def _is_least(system, term, thing):
    """Whether a list of four, the first one "least", is right."""
    _, number, point, paper = thing
    if not is_whole(number) or not is_point(system, point):
        return False
    return value_of(term, point) == number and is_paper(_below(system, term, number), paper)


def _is_falling(system, term, thing):
    """Whether a list of three, the first one "falls", is right."""
    _, point, ray = thing
    if not is_numbers_of(point, system.names()) or not is_numbers_of(ray, system.names()):
        return False
    kept = all([_is_kept(plain(body), point, ray) for body in system.bodies()])
    return kept and change_along(term, ray) < 0


def is_end(system, term, thing):
    """Whether any object is a right answer of least_of."""
    check_system(system)
    check_term(system, term)
    if not is_list(thing) or len(thing) == 0:
        return False
    if thing[0] == "least" and len(thing) == 4:
        return _is_least(system, term, thing)
    if thing[0] == "falls" and len(thing) == 3:
        return _is_falling(system, term, thing)
    return thing[0] == "none" and len(thing) == 2 and is_paper(system, thing[1])
