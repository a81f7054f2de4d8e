"""What costs least of what does for a wish: claims that nothing is cheaper, or costs that fall, and programs made."""

from outofwishes.drafts import in_parts
from outofwishes.errors import BadTerm, StrangeName
from outofwishes.finders import first_draft, next_step, quests_of
from outofwishes.flats import cases
from outofwishes.judged import check_for_wish
from outofwishes.maker import made
from outofwishes.programs import Program
from outofwishes.putting import put_in_term
from outofwishes.terms import is_term, less, names_of, scaled, sum_of, turned
from outofwishes.together import part_of_point, point_of_some
from outofwishes.ways import trips_of
from outofwishes.wholes import paper_of, point_of
from outofwishes.wishes import System, check_wish


def _check_cost(wish, term):
    """Raise BadTerm for what is no term, StrangeName for its first name that is no input and no output of a wish."""
    if not is_term(term):
        raise BadTerm(term)
    names = wish.inputs() + wish.outputs()
    for name in names_of(term):
        if name not in names:
            raise StrangeName(name)


def _cheaper(program, wish, term):
    """For each way that gives, the system of its numbers, and of outputs that do and cost at least 1 less."""
    outputs = wish.outputs()
    systems = []
    for trip in trips_of(program):
        end = trip.told_end()
        if end is not None:
            cost = put_in_term(term, {name: part for name, part in zip(outputs, end)})
            row = ("row", less(sum_of([cost, turned(term)]), 1))
            systems.append(System(trip.known + outputs, trip.said + [wish.body(), row]))
    return systems


def cheaper_at(program, wish, term):
    """Inputs for which a program gives, and outputs that do for them and are cheaper; None if there are none."""
    check_for_wish(program, wish)
    _check_cost(wish, term)
    point = point_of_some(_cheaper(program, wish, term))
    if point is None:
        return None
    return (part_of_point(point, wish.inputs()), part_of_point(point, wish.outputs()))


def cost_claims(program, wish, term):
    """For each way that gives, the system of what would be cheaper and a paper of it; None if some is cheaper."""
    check_for_wish(program, wish)
    _check_cost(wish, term)
    claims = []
    for system in _cheaper(program, wish, term):
        paper = paper_of(system)
        if paper is None:
            return None
        claims.append((system, paper))
    return claims


def _part_of(term, names):
    """The parts of a term that have these names, without its constant."""
    return ({name: term[0][name] for name in term[0] if name in names}, 0)


def _rays_of(case, outputs, cost):
    """The system of the rays of a case: what the outputs can be changed by again and again, each time for less."""
    bodies = [test[:-1] + (_part_of(test[-1], outputs),) for test in case]
    return System(outputs, bodies + [("row", less(turned(_part_of(cost, outputs)), 1))])


def _case_systems(wish, term):
    """For each case of a wish's body the pair of its system, and that of its rays."""
    outputs = wish.outputs()
    names = wish.inputs() + outputs
    return [(System(names, case), _rays_of(case, outputs, term)) for case in cases(wish.body())]


def falls(wish, term):
    """Inputs, outputs that do for them, and what can be added to these again and again, for less; None if none can."""
    check_wish(wish)
    _check_cost(wish, term)
    for system, rays in _case_systems(wish, term):
        ray = point_of(rays)
        point = None if ray is None else point_of(system)
        if point is not None:
            return (part_of_point(point, wish.inputs()), part_of_point(point, wish.outputs()), ray)
    return None


def least_claims(wish, term):
    """For each case its system or that of its rays, with a paper of it; None if some case has points of both."""
    check_wish(wish)
    _check_cost(wish, term)
    claims = []
    for system, rays in _case_systems(wish, term):
        claimed = rays
        paper = paper_of(rays)
        if paper is None:
            claimed = system
            paper = paper_of(system)
        if paper is None:
            return None
        claims.append((claimed, paper))
    return claims


def _best(draft, found, side):
    """The statement that gives the least of what was found (side 1), or the greatest (-1); none of nothing."""
    if len(found) == 0:
        return ("none",)
    here = draft.twin()
    best = scaled(here.greatest([scaled(term, -side) for term in found]), -side)
    return in_parts(here.parts[len(draft.parts):], ("give", [best]))


def _cheapest(draft, quests, found, side):
    """The statement that gives the best of what was found and of what each quest finds."""
    step, others = next_step(draft, quests, side)
    if step is None:
        return _best(draft, found, side)
    more = [step.terms[name] for name in step.terms]
    other = _cheapest(step.failed, others, found, side) if step.can_fail() else ("none",)
    return step.told_with(_cheapest(step.granted, others, found + more, side), other)


def cheapest(wish, term):
    """A program for a wish of one output that is right, and than which nothing is cheaper; None if costs fall."""
    if falls(wish, term) is not None:
        return None
    outputs = wish.outputs()
    part = term[0].get(outputs[0], 0)
    if part == 0:
        return made(wish)
    quests = []
    for case in cases(wish.body()):
        # A case without a point may have no end on the side that is wanted.
        if point_of(System(wish.inputs() + outputs, case)) is not None:
            quests = quests + quests_of(case, outputs)
    statement = _cheapest(first_draft(wish), quests, [], 1 if part > 0 else -1)
    return Program(wish.inputs(), outputs, statement)
