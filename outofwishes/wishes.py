"""Wishes of outputs for inputs, and systems of bodies that are all to be so."""

from outofwishes.bodies import is_body, is_so, names_of_bodies, told_body
from outofwishes.errors import (
    BadBodies,
    BadBody,
    BadFound,
    BadGiven,
    BadNames,
    BadSystem,
    BadTerm,
    BadWish,
    StrangeName,
)
from outofwishes.kinds import bad_name_at, check_inputs_outputs, is_list, is_numbers_of
from outofwishes.terms import is_term, names_of


def check_no_stranger(bodies, names):
    """Raise StrangeName for the first name of the bodies that is none of the names."""
    for name in names_of_bodies(bodies):
        if name not in names:
            raise StrangeName(name)


class Wish:
    """Of the inputs give outputs such that the body is so."""

    def __init__(self, inputs, outputs, body):
        check_inputs_outputs(inputs, outputs)
        if not is_body(body):
            raise BadBody(body)
        check_no_stranger([body], list(inputs) + list(outputs))
        self._inputs = list(inputs)
        self._outputs = list(outputs)
        self._body = told_body(body)

    def __eq__(self, other):
        return (
            isinstance(other, Wish)
            and self._inputs == other._inputs
            and self._outputs == other._outputs
            and self._body == other._body
        )

    def inputs(self):
        """The list of the inputs, as passed."""
        return list(self._inputs)

    def outputs(self):
        """The list of the outputs, as passed."""
        return list(self._outputs)

    def body(self):
        """The body, told."""
        return told_body(self._body)

    def does(self, given, found):
        """Whether the outputs found do for the inputs given."""
        if not is_numbers_of(given, self._inputs):
            raise BadGiven(given)
        if not is_numbers_of(found, self._outputs):
            raise BadFound(found)
        numbers = {name: given[name] for name in self._inputs}
        for name in self._outputs:
            numbers[name] = found[name]
        return is_so(self._body, numbers)


def check_wish(wish):
    """Raise BadWish for what is no Wish."""
    if not isinstance(wish, Wish):
        raise BadWish(wish)


def bad_body_at(bodies):
    """The index of the first thing that is no body; 0 for no list, None if all are bodies."""
    if not is_list(bodies):
        return 0
    for index, body in enumerate(bodies):
        if not is_body(body):
            return index
    return None


class System:
    """Names in an order, and bodies all of which are to be so."""

    def __init__(self, names, bodies):
        index = bad_name_at(names, [])
        if index is not None:
            raise BadNames(index)
        index = bad_body_at(bodies)
        if index is not None:
            raise BadBodies(index)
        check_no_stranger(bodies, names)
        self._names = list(names)
        self._bodies = [told_body(body) for body in bodies]

    def __eq__(self, other):
        return isinstance(other, System) and self._names == other._names and self._bodies == other._bodies

    def names(self):
        """The list of the names, in the system's order."""
        return list(self._names)

    def bodies(self):
        """The list of the bodies, told."""
        return [told_body(body) for body in self._bodies]


def check_system(system):
    """Raise BadSystem for what is no System."""
    if not isinstance(system, System):
        raise BadSystem(system)


def check_term(system, term):
    """Raise BadTerm for what is no term, StrangeName for the first name of it that is none of the system's."""
    if not is_term(term):
        raise BadTerm(term)
    names = system.names()
    for name in names_of(term):
        if name not in names:
            raise StrangeName(name)


def is_point(system, thing):
    """Whether any object is a point of a system: just its names, and all its bodies are so."""
    check_system(system)
    if not is_numbers_of(thing, system.names()):
        return False
    return is_so(("all", system.bodies()), thing)
