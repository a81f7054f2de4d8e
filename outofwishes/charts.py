"""Charts: where the places of a program are in a code, and in which registers the names that are wanted there."""

from outofwishes.bodies import term_of
from outofwishes.codes import cell_name, is_cell, told_lines
from outofwishes.errors import BadChart
from outofwishes.kinds import is_list, is_whole
from outofwishes.programs import known_at
from outofwishes.putting import put_in_term, put_in_test
from outofwishes.statements import visits
from outofwishes.terms import names_of, sum_of, turned
from outofwishes.ways import check_program


def _own_terms(statement):
    """The terms of a statement and of its tests, those of what stands in it left aside."""
    kind = statement[0]
    if kind == "none":
        return []
    if kind == "give":
        return statement[1]
    if kind == "let":
        return [statement[3]]
    if kind == "most":
        return statement[2]
    if kind == "if":
        return [term_of(statement[1])]
    return [term_of(test) for test in statement[3]]


class Site:
    """A place of a program, the statement there, the names wanted there, and the sites of what stands in it, by turns.

    sets is the name that the statement sets, None if it sets none.
    """

    def __init__(self, place, there, wanted, inner):
        self.place = place
        self.there = there
        self.wanted = wanted
        self.inner = inner
        self.sets = there[1] if there[0] in ("let", "most", "first") else None

    def sets_wanted(self):
        """Whether the statement sets a name that is wanted behind it."""
        return self.sets is not None and self.sets in self.inner[0].wanted


def sites_of(program):
    """The sites of all places of a program, in order."""
    used = {}
    found = {}
    all_visits = visits(program.statement(), program.inputs())
    for place, statement, known in reversed(all_visits):
        # What stands in a statement is behind it in order, so it was met already.
        turns = [tuple(place + [turn]) for turn in (0, 1) if tuple(place + [turn]) in found]
        names = {name: True for term in _own_terms(statement) for name in names_of(term)}
        for turn in turns:
            names = {**names, **used[turn]}
        used[tuple(place)] = names
        wanted = [name for name in known if name in names]
        found[tuple(place)] = Site(place, statement, wanted, [found[turn] for turn in turns])
    return [found[tuple(place)] for place, _, _ in all_visits]


def wanted_at(program, place):
    """The names known at a place that something there, or in what stands there, has."""
    known_at(program, place)
    for site in sites_of(program):
        if site.place == list(place):
            return site.wanted
    return None


def _are_cells_for(thing, names, many):
    """Whether a thing is a dict from just these names to so many registers, all unlike."""
    if not isinstance(thing, dict) or len(thing) != len(names) or not all([name in thing for name in names]):
        return False
    cells = [thing[name] for name in names]
    if not all([is_cell(cell, many) for cell in cells]):
        return False
    return len(set(cells)) == len(cells)


def _is_triple(thing, site, many, length):
    """Whether a thing is a triple of a chart for a site, and a code of so many registers and lines."""
    if not is_list(thing) or len(thing) != 3 or not is_list(thing[0]) or not is_whole(thing[1]):
        return False
    if not all([is_whole(turn) for turn in thing[0]]) or list(thing[0]) != site.place:
        return False
    return 0 <= thing[1] < length and _are_cells_for(thing[2], site.wanted, many)


def _is_chart_for(program, sites, code, thing):
    """Whether any object is a chart of a program and a code."""
    many, lines = code
    if not is_list(thing) or len(thing) != len(sites):
        return False
    if not all([_is_triple(triple, site, many, len(lines)) for triple, site in zip(thing, sites)]):
        return False
    first = thing[0][2]
    at_first = {name: cell_name(at) for at, name in enumerate(program.inputs())}
    return thing[0][1] == 0 and all([first[name] == at_first[name] for name in first])


def is_chart(program, code, thing):
    """Whether any object is a chart of a program and a code."""
    check_program(program)
    told_lines(program, code)
    return _is_chart_for(program, sites_of(program), code, thing)


def _put_for(cells):
    """What is put in for names: their registers."""
    return {name: ({cells[name]: 1}, 0) for name in cells}


def _blocks_of_most(statement, put):
    """The pairs of tests and of the term to set, of each term of a most."""
    terms = [put_in_term(term, put) for term in statement[2]]
    found = []
    for at, term in enumerate(terms):
        rows = [("row", sum_of([term, turned(other)])) for beside, other in enumerate(terms) if beside != at]
        found.append((rows if at < len(terms) - 1 else [], term))
    return found


def _blocks_of_first(statement, put, is_set):
    """The pairs of tests and of the term to set, None for no set, of each number of a first one."""
    _, name, count, tests, _, _ = statement
    found = []
    for number in range(count if len(tests) > 0 else 1):
        term = ({}, number)
        told = [put_in_test(test, {**put, name: term}) for test in tests]
        found.append((told, term if is_set else None))
    return found


def _blocks_of(site, put):
    """The blocks of a most or a first one, registers put in for names."""
    if site.there[0] == "most":
        return _blocks_of_most(site.there, put)
    return _blocks_of_first(site.there, put, site.sets_wanted())


class Fitting:
    """A code's lines and a chart's lines and registers by places, to be held against sites."""

    def __init__(self, lines, chart):
        self.lines = lines
        self.lead = [0] * len(lines)
        for at in reversed(range(len(lines))):
            # A go is to a line behind it, of which it is told already.
            self.lead[at] = self.lead[lines[at][1]] if lines[at][0] == "go" else at
        self.starts = {tuple(place): line for place, line, _ in chart}
        self.cells = {tuple(place): cells for place, _, cells in chart}

    def lead_of(self, site):
        """What a site's line leads to."""
        return self.lead[self.starts[tuple(site.place)]]

    def cells_of(self, site):
        """The registers of a site's triple."""
        return self.cells[tuple(site.place)]

    def keeps_cells(self, site):
        """Whether the names that are wanted in a statement keep their registers, but for the one it sets."""
        for inner in site.inner:
            for name in inner.wanted:
                if name != site.sets and self.cells_of(inner)[name] != self.cells_of(site)[name]:
                    return False
        return True

    def fits_blocks(self, site, blocks):
        """Whether a site's line leads to blocks, each behind the one ahead."""
        onward = self.lead_of(site.inner[0])
        at = self.lead_of(site)
        for tests, term in blocks:
            targets = []
            for test in tests:
                line = self.lines[at]
                if line[:2] != ("jump", test):
                    return False
                targets.append(self.lead[line[2]])
                at += 1
            if term is not None:
                if self.lines[at] != ("set", self.cells_of(site.inner[0])[site.sets], 1, term):
                    return False
                at += 1
            if self.lead[at] != onward or any([target != targets[0] for target in targets]):
                return False
            at = targets[0] if len(targets) > 0 else at
        # Behind the last block's jumps comes the other one; without jumps it is never come to.
        return len(blocks[-1][0]) == 0 or at == self.lead_of(site.inner[1])

    def fits(self, site):
        """Whether the code fits at a site."""
        if not self.keeps_cells(site):
            return False
        statement = site.there
        put = _put_for(self.cells_of(site))
        at = self.lead_of(site)
        line = self.lines[at]
        if statement[0] == "none":
            return line == ("none",)
        if statement[0] == "give":
            return line == ("give", [put_in_term(term, put) for term in statement[1]])
        if statement[0] == "if":
            if line[:2] != ("jump", put_in_test(statement[1], put)):
                return False
            onward, other = [self.lead_of(inner) for inner in site.inner]
            return self.lead[at + 1] == onward and self.lead[line[2]] == other
        if statement[0] != "first" and not site.sets_wanted():
            return at == self.lead_of(site.inner[0])
        if statement[0] == "let":
            cell = self.cells_of(site.inner[0])[site.sets]
            wanted = ("set", cell, statement[2], put_in_term(statement[3], put))
            return line == wanted and self.lead[at + 1] == self.lead_of(site.inner[0])
        return self.fits_blocks(site, _blocks_of(site, put))


def chart_fault(program, code, chart):
    """The first place at which a code does not fit, as a chart tells, None if it fits at all."""
    check_program(program)
    lines = told_lines(program, code)
    sites = sites_of(program)
    if not _is_chart_for(program, sites, code, chart):
        raise BadChart(chart)
    fitting = Fitting(lines, chart)
    for site in sites:
        if not fitting.fits(site):
            return site.place
    return None


def _fewest(program, sites):
    """The pair of how few registers do, and the first site at which the most names are wanted."""
    best = sites[0]
    for site in sites:
        if len(site.wanted) > len(best.wanted):
            best = site
    return (max(len(best.wanted), len(program.inputs())), best)


def fewest_registers(program):
    """The pair of how few registers do, and the first place at which the most names are wanted."""
    check_program(program)
    number, site = _fewest(program, sites_of(program))
    return (number, site.place)


def _given_cells(program, sites, many):
    """The registers, of so many, of the names wanted at each site, by places, given from the top down."""
    every = [cell_name(at) for at in range(many)]
    numbered = {name: every[at] for at, name in enumerate(program.inputs())}
    found = {(): {name: numbered[name] for name in sorted(sites[0].wanted)}}
    for site in sites:
        own = found[tuple(site.place)]
        for inner in site.inner:
            cells = {name: own[name] for name in inner.wanted if name != site.sets}
            if site.sets in inner.wanted:
                kept = [cells[name] for name in cells]
                cells[site.sets] = [cell for cell in every if cell not in kept][0]
            found[tuple(inner.place)] = {name: cells[name] for name in sorted(cells)}
    return found


def _lines_of_blocks(blocks, cell, start, onward, other):
    """The lines of blocks from a line on; onward stands right behind them, other is where the last jumps lead."""
    lines = []
    for index, (tests, term) in enumerate(blocks):
        is_last = index == len(blocks) - 1
        own = [("set", cell, 1, term)] if term is not None else []
        if not is_last:
            own.append(("go", onward))
        behind = start + len(lines) + len(tests) + len(own)
        lines = lines + [("jump", test, other if is_last else behind) for test in tests] + own
    return lines


def _lines_at(site, cells, starts):
    """The lines of a site itself, registers by places being given, and lines by places, as far as they are known."""
    statement = site.there
    put = _put_for(cells[tuple(site.place)])
    if statement[0] == "none":
        return [("none",)]
    if statement[0] == "give":
        return [("give", [put_in_term(term, put) for term in statement[1]])]
    after = [starts.get(tuple(inner.place), 0) for inner in site.inner]
    if statement[0] == "if":
        return [("jump", put_in_test(statement[1], put), after[1])]
    if statement[0] != "first" and not site.sets_wanted():
        return []
    cell = cells[tuple(site.inner[0].place)].get(site.sets)
    if statement[0] == "let":
        return [("set", cell, statement[2], put_in_term(statement[3], put))]
    return _lines_of_blocks(_blocks_of(site, put), cell, starts.get(tuple(site.place), 0), after[0], after[-1])


def code_of(program):
    """The pair of a code that does what a program does, with as few registers as can be, and its chart."""
    check_program(program)
    sites = sites_of(program)
    many, _ = _fewest(program, sites)
    cells = _given_cells(program, sites, many)
    starts = {}
    length = 0
    for site in sites:
        starts[tuple(site.place)] = length
        # As many lines as there are whatever lines they lead to.
        length += len(_lines_at(site, cells, {}))
    lines = [line for site in sites for line in _lines_at(site, cells, starts)]
    chart = [(site.place, starts[tuple(site.place)], cells[tuple(site.place)]) for site in sites]
    return ((many, lines), chart)
