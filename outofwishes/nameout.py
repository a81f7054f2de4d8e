"""One name of a case: all its values at numbers for the others, and cases of the others that tell if there are any."""

from math import gcd

from outofwishes.bodies import names_of_bodies, term_of
from outofwishes.errors import BadName, BadNumbers
from outofwishes.flats import told_case
from outofwishes.kinds import is_name, is_numbers_with
from outofwishes.seeking import coefficient_in, leaves, quest_for
from outofwishes.terms import value_of


def check_name(name):
    """Raise BadName for what is no name."""
    if not is_name(name):
        raise BadName(name)


def others_in(case, name):
    """The ascending names that a case has, but one."""
    return [other for other in names_of_bodies(case) if other != name]


def rest_at(test, name, numbers):
    """What a test's term comes to at numbers, without its part of one name."""
    term = term_of(test)
    return value_of(({other: term[0][other] for other in term[0] if other != name}, term[1]), numbers)


class Values:
    """The integers from a least to a most one, None where there is none, with a rest by a period."""

    def __init__(self):
        self.least = None
        self.most = None
        self.period = 1
        self.rest = 0

    def raise_least(self, number):
        """Leave the integers from a number on."""
        self.least = number if self.least is None else max(self.least, number)

    def lower_most(self, number):
        """Leave the integers to a number."""
        self.most = number if self.most is None else min(self.most, number)

    def take_by(self, many, part, rest):
        """Leave those by which many divides so many times the integer, and a rest; tell whether any can be left."""
        shared = gcd(many, part)
        if rest % shared != 0:
            return False
        period = self.period * (many // shared) // gcd(self.period, many // shared)
        for number in range(self.rest, period, self.period):
            if (part * number + rest) % many == 0:
                self.period, self.rest = period, number
                return True
        return False

    def take(self, test, part, rest):
        """Leave those by which a test is so, whose term is so many times the integer, and a rest; tell as take_by."""
        if test[0] == "by":
            return self.take_by(test[1], part, rest)
        if part == 0:
            return rest >= 0 if test[0] == "row" else rest == 0
        if test[0] == "same":
            self.raise_least(-rest // part)
            self.lower_most(-rest // part)
            return rest % part == 0
        if part > 0:
            self.raise_least(-(rest // part))
        else:
            self.lower_most(rest // -part)
        return True

    def told(self):
        """The told values, None if there are none."""
        least, most = self.least, self.most
        if least is not None:
            least += (self.rest - least) % self.period
        if most is not None:
            most -= (most - self.rest) % self.period
        if least is not None and most is not None:
            if least > most:
                return None
            if least == most:
                return (least, most, 1, 0)
        return (least, most, self.period, self.rest)


def set_of(case, name, numbers):
    """The least, the most, the period and the rest of all values of a name at numbers for the others, or None."""
    tests = told_case(case)
    check_name(name)
    if not is_numbers_with(numbers, others_in(tests, name)):
        raise BadNumbers(numbers)
    values = Values()
    for test in tests:
        if not values.take(test, coefficient_in(test, name), rest_at(test, name, numbers)):
            return None
    return values.told()


def without(case, name):
    """Cases of the other names, all tests of some one of which are so just where there is a value of a name."""
    tests = told_case(case)
    check_name(name)
    quest = quest_for(tests, [name], [])
    if quest is None:
        return []
    found = []
    for leaf in leaves(quest, 0):
        if leaf.tests not in found:
            found.append(leaf.tests)
    return [told_case(tests) for tests in found]
