"""Programs held against wishes: right at all inputs, with papers, or wrong at some."""

from outofwishes.errors import UnlikeNames
from outofwishes.kinds import is_list, is_numbers_of
from outofwishes.papers import is_paper
from outofwishes.programs import run
from outofwishes.putting import put_in_body
from outofwishes.together import papers_of_all, part_of_point, point_of_some
from outofwishes.ways import check_program, trips_of
from outofwishes.wishes import System, check_wish


def check_for_wish(program, wish):
    """Raise BadProgram, BadWish, or UnlikeNames if the program is not for the wish."""
    check_program(program)
    check_wish(wish)
    if program.inputs() != wish.inputs() or program.outputs() != wish.outputs():
        raise UnlikeNames()


def _question(trip, wish):
    """The system of what is wrong on one way."""
    end = trip.told_end()
    if end is None:
        return System(trip.known + wish.outputs(), trip.said + [wish.body()])
    put = {name: term for name, term in zip(wish.outputs(), end)}
    return System(trip.known, trip.said + [("not", put_in_body(wish.body(), put))])


def questions(program, wish):
    """A system for each way, which has a point where the program goes that way and is wrong."""
    check_for_wish(program, wish)
    return [_question(trip, wish) for trip in trips_of(program)]


def papers_for(program, wish):
    """A paper for each question, None if some question has a point."""
    return papers_of_all(questions(program, wish))


def wrong_at(program, wish):
    """The pair of inputs at which the program is wrong, and outputs that do where it tells none; or None."""
    point = point_of_some(questions(program, wish))
    if point is None:
        return None
    given = part_of_point(point, wish.inputs())
    return (given, part_of_point(point, wish.outputs()) if run(program, given) is None else None)


def is_right(program, wish):
    """Whether the program is wrong at no inputs."""
    return wrong_at(program, wish) is None


def are_papers_for(program, wish, thing):
    """Whether any object is a list of a paper for each question."""
    asked = questions(program, wish)
    if not is_list(thing) or len(thing) != len(asked):
        return False
    return all([is_paper(question, paper) for question, paper in zip(asked, thing)])


def is_wrong_at(program, wish, thing):
    """Whether any object is a pair of inputs at which the program is wrong, and of what wrong_at tells with them."""
    check_for_wish(program, wish)
    if not is_list(thing) or len(thing) != 2 or not is_numbers_of(thing[0], wish.inputs()):
        return False
    given, found = thing
    told = run(program, given)
    if told is not None:
        return found is None and not wish.does(given, told)
    return is_numbers_of(found, wish.outputs()) and wish.does(given, found)
