"""What the package tells, looked through by code of the tests' own: adding up and putting in, with Python's fractions."""

import random
from fractions import Fraction

from outofwishes.bodies import holds
from outofwishes.flats import flat
from outofwishes.wishes import System
from tests.samples import any_body, any_term, holders, shape, spoil


def is_int(thing):
    return type(thing) is int


def is_row(thing):
    return type(thing) in (list, tuple)


def are_numbers(thing, names):
    return type(thing) is dict and set(thing) == set(names) and all(is_int(thing[name]) for name in names)


def fraction_of(thing):
    """The Fraction that any object is, None if it is none."""
    if is_row(thing) and len(thing) == 2 and is_int(thing[0]) and is_int(thing[1]) and thing[1] > 0:
        return Fraction(*thing)
    return None


def fractions_of(thing, many):
    """The Fractions that any object is a list of, None if it is none of so many."""
    if not is_row(thing) or len(thing) != many:
        return None
    found = [fraction_of(part) for part in thing]
    return None if None in found else found


def combined(tests, fractions):
    """What fractions make of the tests' terms: coefficients other than 0, and a constant."""
    coefficients, constant = {}, Fraction(0)
    for test, times in zip(tests, fractions):
        constant += times * test[-1][1]
        for name, number in test[-1][0].items():
            coefficients[name] = coefficients.get(name, Fraction(0)) + times * number
    return {name: number for name, number in coefficients.items() if number != 0}, constant


def sum_fractions(tests, thing):
    """The Fractions of sum multipliers, None for any other object."""
    fractions = fractions_of(thing, len(tests))
    if fractions is None:
        return None
    for test, times in zip(tests, fractions):
        if (test[0] == "row" and times < 0) or (test[0] == "by" and times != 0):
            return None
    return fractions


def sum_is_right(tests, thing):
    fractions = sum_fractions(tests, thing)
    if fractions is None:
        return False
    coefficients, constant = combined(tests, fractions)
    return coefficients == {} and constant < 0


def gauge_is_right(tests, thing):
    fractions = fractions_of(thing, len(tests))
    if fractions is None:
        return False
    for test, times in zip(tests, fractions):
        if test[0] == "row" and times != 0:
            return False
        if test[0] == "by" and (times * test[1]).denominator != 1:
            return False
    coefficients, constant = combined(tests, fractions)
    return all(number.denominator == 1 for number in coefficients.values()) and constant.denominator != 1


def term_is_right(thing):
    return is_row(thing) and len(thing) == 2 and type(thing[0]) is dict and is_int(thing[1]) and all(
        type(name) is str and 1 <= len(name) <= 8 and is_int(number) for name, number in thing[0].items()
    )


def opened(body, tests, anys):
    """Put a body without "not" behind tests and anys, as [5.3] does."""
    if body[0] == "all" or (body[0] == "any" and len(body[1]) == 1):
        for inner in body[1]:
            opened(inner, tests, anys)
    elif body[0] == "any":
        anys.append(body[1])
    else:
        tests.append(body)


def _inner_of_span(tests, anys, thing):
    _, term, low, high, papers = thing
    low, high = sum_fractions(tests, low), sum_fractions(tests, high)
    if not term_is_right(term) or low is None or high is None or not is_row(papers):
        return None
    below, above = combined(tests, low), combined(tests, high)
    wanted = {name: Fraction(number) for name, number in term[0].items() if number != 0}
    if below[0] != wanted or above[0] != {name: -number for name, number in wanted.items()}:
        return None
    first, last = term[1] - below[1], term[1] + above[1]
    values = list(range(-(-first.numerator // first.denominator), last.numerator // last.denominator + 1))
    if len(values) != len(papers):
        return None
    return [(tests + [("same", (term[0], term[1] - value))], anys, paper) for value, paper in zip(values, papers)]


def _inner_of_any(tests, anys, thing):
    _, index, papers = thing
    if not is_int(index) or not 0 <= index < len(anys) or not is_row(papers) or len(papers) != len(anys[index]):
        return None
    found = []
    for body, paper in zip(anys[index], papers):
        more, others = list(tests), anys[:index] + anys[index + 1:]
        opened(body, more, others)
        found.append((more, others, paper))
    return found


def flaw_by_hand(tests, anys, thing):
    """None if a thing is a paper for tests and anys, else the way to its first part that is wrong by itself."""
    inner = None
    if is_row(thing) and len(thing) > 0 and type(thing[0]) is str:
        word, many = thing[0], len(thing)
        if (word, many) in (("sum", 2), ("gauge", 2)):
            right = sum_is_right if word == "sum" else gauge_is_right
            return None if right(tests, thing[1]) else []
        if (word, many) == ("span", 5):
            inner = _inner_of_span(tests, anys, thing)
        if (word, many) == ("any", 3):
            inner = _inner_of_any(tests, anys, thing)
    if inner is None:
        return []
    for index, (more, others, paper) in enumerate(inner):
        way = flaw_by_hand(more, others, paper)
        if way is not None:
            return [index] + way
    return None


def paper_flaw(system, thing):
    tests, anys = flat(system)
    return flaw_by_hand(tests, anys, thing)


def parts_of(paper):
    """All parts of a paper, with their ways."""
    found = [([], paper)]
    if paper[0] in ("span", "any"):
        for index, inner in enumerate(paper[-1]):
            found += [([index] + way, part) for way, part in parts_of(inner)]
    return found


def loose_point_is_right(tests, names, thing):
    """Whether any object is a dict from just the names to fractions by which rows and sames are so."""
    if type(thing) is not dict or set(thing) != set(names):
        return False
    numbers = {name: fraction_of(thing[name]) for name in names}
    if None in numbers.values():
        return False
    for test in tests:
        value = test[-1][1] + sum(number * numbers[name] for name, number in test[-1][0].items())
        if value < 0 or (test[0] == "same" and value != 0):
            return False
    return True


def whole_mix(steps, way, names):
    """The fractions by which steps add up to a way, None if there are none; steps are independent."""
    rows = [[Fraction(step[name]) for step in steps] + [Fraction(way[name])] for name in names]
    done = 0
    for column in range(len(steps)):
        found = [at for at in range(done, len(rows)) if rows[at][column] != 0]
        if not found:
            return None
        rows[done], rows[found[0]] = rows[found[0]], rows[done]
        rows[done] = [number / rows[done][column] for number in rows[done]]
        for at in range(len(rows)):
            if at != done:
                rows[at] = [a - rows[at][column] * b for a, b in zip(rows[at], rows[done])]
        done += 1
    if any(row[-1] != 0 for row in rows[done:]):
        return None
    return [row[-1] for row in rows[:done]]


def rank(tests, names):
    """How many of the tests' terms none of which is made of others, constants aside."""
    rows = [[Fraction(test[-1][0].get(name, 0)) for name in names] for test in tests]
    done = 0
    for column in range(len(names)):
        found = [at for at in range(done, len(rows)) if rows[at][column] != 0]
        if found:
            rows[done], rows[found[0]] = rows[found[0]], rows[done]
            for at in range(done + 1, len(rows)):
                times = rows[at][column] / rows[done][column]
                rows[at] = [a - times * b for a, b in zip(rows[at], rows[done])]
            done += 1
    return done


def box(names, most):
    """All points of these names from -most to most."""
    found = [{}]
    for name in names:
        found = [{**point, name: number} for point in found for number in range(-most, most + 1)]
    return found


def points_in(system, points):
    return [point for point in points if all(holds(body, point) for body in system.bodies())]


def bent(thing):
    """A thing with one of its parts otherwise, at whatever depth, each way once."""
    if is_row(thing):
        for at, part in enumerate(thing):
            for other in bent(part):
                yield type(thing)([*thing[:at], other, *thing[at + 1:]])
            yield type(thing)([*thing[:at], *thing[at + 1:]])
            yield type(thing)([*thing[:at + 1], *thing[at:]])
            if at > 0:
                yield type(thing)([*thing[:at - 1], part, thing[at - 1], *thing[at + 1:]])
        yield from [None, "", {}, [thing], [*thing, 0]]
    elif type(thing) is dict:
        for name in thing:
            for other in bent(thing[name]):
                yield {**thing, name: other}
            yield {other: thing[other] for other in thing if other != name}
        yield from [{**thing, "zz9": 0}, {**thing, 1: 1}, None, list(thing), list(thing.items())]
    elif type(thing) is int:
        yield from [thing + 1, thing - 1, -thing, thing * 2, True, False, None, str(thing), [thing]]
    else:
        yield from [None, 0, "row", "any", "none", [thing]]


def some_bent(thing, chance, many):
    """Some of the bent things, and some of the bent ones of these."""
    once = list(bent(thing))
    once = chance.sample(once, min(many, len(once)))
    for other in once:
        yield other
        twice = list(bent(other)) if other is not None else []
        if twice:
            yield chance.choice(twice)


def objects_to_refuse():
    """Objects none of which is a paper, multipliers, a solution, a quarrel or what else is told of a system."""
    deep = None
    for _ in range(50):
        deep = ("any", 0, [deep])
    wide = ("sum", [])
    for _ in range(50):
        wide = ("span", ({}, 0), [], [], [wide])
    return [deep, wide, ("sum",), ("gauge",), ("span",), ("any",), ("least",), ("falls",), ("none",), ("none", None), ("sum", None), "sum"]


def told_again(case, ask):
    """What ask tells; checked is that it is new throughout, and the same again whatever the caller does to it."""
    told = ask()
    held = holders(told)
    case.assertEqual(len({id(one) for one in held}), len(held))
    kept = shape(told)
    spoil(told)
    again = ask()
    case.assertEqual(shape(again), kept)
    return again


def figures(thing):
    """The most figures that an integer within a thing has."""
    if type(thing) is int:
        return len(str(abs(thing)))
    if type(thing) is dict:
        return max([0] + [figures(part) for part in thing.values()])
    if is_row(thing):
        return max([0] + [figures(part) for part in thing])
    return 0


def any_row(chance, names, most, constant):
    return ("row", ({name: chance.randint(-most, most) for name in names}, chance.randint(-constant, constant)))


def any_system(chance, most_names=3, most_tests=6, most_anys=2, constant=12):
    """A system at random, within the limits of [8]; often with strips, so often without a point."""
    names = chance.sample(["x", "y", "z", "a1"], chance.randint(0, most_names))
    most = {0: 9, 1: 9, 2: 9, 3: 5, 4: 3}[len(names)]
    bodies = []
    for _ in range(chance.randint(0, most_tests)):
        kind = chance.choice(["row", "row", "strip", "same", "by"])
        row = any_row(chance, names, most, constant)
        if kind == "same":
            bodies.append(("same", row[1]))
        elif kind == "by":
            bodies.append(("by", chance.randint(1, 6), row[1]))
        else:
            bodies.append(row)
            if kind == "strip":
                coefficients = {name: -number for name, number in row[1][0].items()}
                bodies.append(("row", (coefficients, chance.randint(0, most) - row[1][1])))
    for _ in range(chance.randint(0, most_anys)):
        inner = [any_body(chance, names, 1) for _ in range(chance.randint(0, 3))]
        bodies.append((chance.choice(["any", "any", "all"]), inner))
    chance.shuffle(bodies)
    return System(names, bodies)


def any_term_of(chance, names):
    return any_term(chance, names, 9) if names else ({}, chance.randint(-9, 9))


def chance_of(seed):
    return random.Random(seed)


def value_by_hand(term, numbers):
    """What a term comes to; names with a coefficient 0 need no number."""
    return term[1] + sum(number * numbers[name] for name, number in term[0].items() if number != 0)


def is_so_by_hand(body, numbers):
    """Whether a body is so at numbers."""
    if body[0] == "not":
        return not is_so_by_hand(body[1], numbers)
    if body[0] in ("all", "any"):
        found = [is_so_by_hand(inner, numbers) for inner in body[1]]
        return all(found) if body[0] == "all" else any(found)
    value = value_by_hand(body[-1], numbers)
    return {"row": value >= 0, "same": value == 0, "by": body[0] == "by" and value % body[1] == 0}[body[0]]


def inner_by_hand(statement):
    """The statements that stand directly in one, by turns."""
    return {"give": [], "none": [], "let": list(statement[4:]), "most": list(statement[3:]), "if": list(statement[2:]), "first": list(statement[4:])}[statement[0]]


def run_by_hand(program, given):
    """The triple of the answer, the steps and the places that are come to."""
    there, numbers, place, taken = program.statement(), dict(given), [], 0
    found = [[]]
    while there[0] not in ("give", "none"):
        turn, own = 0, 1
        if there[0] == "let":
            numbers[there[1]] = value_by_hand(there[3], numbers) // there[2]
        elif there[0] == "most":
            numbers[there[1]] = max(value_by_hand(term, numbers) for term in there[2])
        elif there[0] == "if":
            turn = 0 if is_so_by_hand(there[1], numbers) else 1
        else:
            right = [k for k in range(there[2]) if all(is_so_by_hand(test, {**numbers, there[1]: k}) for test in there[3])]
            turn, own = (0, right[0] + 1) if right else (1, there[2])
            if right:
                numbers[there[1]] = right[0]
        there, place, taken = inner_by_hand(there)[turn], place + [turn], taken + own
        found.append(place)
    answer = None
    if there[0] == "give":
        answer = {name: value_by_hand(term, numbers) for name, term in zip(program.outputs(), there[1])}
    return answer, taken + 1, found


def put_by_hand(thing, name, term):
    """A term, a test or a body in which a term stands in the place of a name, told."""
    if type(thing[0]) is dict:
        parts, constant = {other: number for other, number in thing[0].items() if other != name}, thing[1]
        times = thing[0].get(name, 0)
        for other, number in term[0].items():
            parts[other] = parts.get(other, 0) + times * number
        return ({other: parts[other] for other in sorted(parts) if parts[other] != 0}, constant + times * term[1])
    if thing[0] == "not":
        return ("not", put_by_hand(thing[1], name, term))
    if thing[0] in ("all", "any"):
        return (thing[0], [put_by_hand(inner, name, term) for inner in thing[1]])
    return (*thing[:-1], put_by_hand(thing[-1], name, term))


def ways_by_hand(program):
    """For each place, in order, the quadruples of names, bodies, steps and statement of the ways down to it."""
    found = {}

    def go(place, names, bodies, taken, there):
        found.setdefault(tuple(place), []).append((names, bodies, taken, there))
        kind, inner = there[0], inner_by_hand(there)
        if kind == "if":
            go(place + [0], names, bodies + [there[1]], taken + 1, inner[0])
            go(place + [1], names, bodies + [("not", there[1])], taken + 1, inner[1])
        elif kind == "let":
            coefficients = {**there[3][0], there[1]: -there[2]}
            low = put_by_hand((coefficients, there[3][1]), "", ({}, 0))
            high = ({name: -number for name, number in low[0].items()}, there[2] - 1 - low[1])
            go(place + [0], names + [there[1]], bodies + [("row", low), ("row", high)], taken + 1, inner[0])
        elif kind == "most":
            beside = [put_by_hand(({there[1]: 1, **{name: -number for name, number in term[0].items()}}, -term[1]), "", ({}, 0)) for term in there[2]]
            own = [("row", term) for term in beside] + [("any", [("same", term) for term in beside])]
            go(place + [0], names + [there[1]], bodies + own, taken + 1, inner[0])
        elif kind == "first":
            failed = [("not", ("all", [put_by_hand(test, there[1], ({}, k)) for test in there[3]])) for k in range(there[2])]
            for k in range(there[2]):
                own = [("same", ({there[1]: 1}, -k)), *failed[:k], *there[3]]
                go(place + [0], names + [there[1]], bodies + own, taken + k + 1, inner[0])
            go(place + [1], names, bodies + failed, taken + there[2], inner[1])

    go([], program.inputs(), [], 0, program.statement())
    return found


def told_system(system):
    """What a system tells, with all kinds and orders."""
    return shape((system.names(), system.bodies()))


def told_by_hand(names, bodies):
    return shape((names, [told_body_by_hand(body) for body in bodies]))


def told_body_by_hand(body):
    """A body with lists for lists and told terms."""
    return put_by_hand(body, "", ({}, 0))


def refused(case, error, kept, ask, thing):
    """Check that ask raises this very error, which keeps this very thing under a name."""
    with case.assertRaises(error) as caught:
        ask()
    case.assertIs(type(caught.exception), error)
    case.assertIs(getattr(caught.exception, kept), thing)
