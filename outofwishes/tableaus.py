"""Rows and sames over fractions: all of them told by as many of them as there are names, one exchanged for another.

A tableau tells each name, and each row and same, as a sum of its columns. A column is a name that nothing holds yet,
which may be anything; or a row or a same, which is taken to be 0. As all are sums of columns at any numbers, the lines
are themselves the multipliers that show what cannot be, or what is least.
"""

from outofwishes.multipliers import lowest

NAME = "name"
ROW = "row"
SAME = "same"


def _swept(other, line, column, sign, bottom):
    """A line in which the exchanged column is put in; sign is that of the line's number there."""
    size = line[column] * sign
    part = other[column] * sign
    if part == 0:
        if size == bottom:
            return other
        return [number * size // bottom for number in other]
    found = [(number * size - part * more) // bottom for number, more in zip(other, line)]
    found[column] = part
    return found


class End:
    """The end of going down: a ray that goes down for ever, or a least value with its multipliers, by marks."""

    def __init__(self, ray, least, fractions):
        self.ray = ray
        self.least = least
        self.fractions = fractions


class Tableau:
    """Lines of integers, all over one bottom, the constant last; kinds and marks stand by variables, names first."""

    def __init__(self, many):
        self.many = many
        self.columns = list(range(many))
        self.basics = []
        self.lines = []
        self.bottom = 1
        self.kinds = [NAME] * many
        self.marks = [None] * many

    def twin(self):
        """A tableau of the same facts, to be changed by itself."""
        other = Tableau(self.many)
        other.columns = list(self.columns)
        other.basics = list(self.basics)
        other.lines = list(self.lines)
        other.bottom = self.bottom
        other.kinds = list(self.kinds)
        other.marks = list(self.marks)
        return other

    def without_constants(self):
        """The tableau of the same facts, all constants 0: its points are what can be gone along for ever."""
        other = self.twin()
        other.lines = [line[:-1] + [0] for line in self.lines]
        return other

    def _line_of(self, vector, constant):
        """The line of a sum of names."""
        line = [0] * len(self.columns) + [constant * self.bottom]
        for at, variable in enumerate(self.columns):
            if variable < self.many:
                line[at] = vector[variable] * self.bottom
        for at, variable in enumerate(self.basics):
            if variable < self.many and vector[variable] != 0:
                times = vector[variable]
                line = [number + times * more for number, more in zip(line, self.lines[at])]
        return line

    def _exchange(self, at, column):
        """Make a column of the line's variable, and a line of the column's."""
        line = self.lines[at]
        sign = 1 if line[column] > 0 else -1
        bottom = self.bottom
        own = [-number * sign for number in line]
        own[column] = bottom * sign
        self.lines = [
            own if place == at else _swept(other, line, column, sign, bottom) for place, other in enumerate(self.lines)
        ]
        self.bottom = line[column] * sign
        self.columns[column], self.basics[at] = self.basics[at], self.columns[column]

    def _kind_at(self, column):
        return self.kinds[self.columns[column]]

    def _fractions(self, line, sign, first):
        """The multipliers that a line shows: sign times its columns' numbers, beside those in first."""
        found = dict(first)
        for at, variable in enumerate(self.columns):
            if line[at] != 0:
                found[self.marks[variable]] = lowest(sign * line[at], self.bottom)
        return found

    def take(self, fact):
        """Put in a row or a same; told are the multipliers of a sum below 0 if a same can be shown not to be so."""
        line = self._line_of(fact.vector, fact.constant)
        self.kinds.append(fact.kind)
        self.marks.append(fact.mark)
        self.basics.append(len(self.kinds) - 1)
        self.lines.append(line)
        wanted = [at for at in range(len(self.columns)) if line[at] != 0 and self._kind_at(at) == NAME]
        if fact.kind == SAME and len(wanted) == 0:
            wanted = [at for at in range(len(self.columns)) if line[at] != 0 and self._kind_at(at) == ROW]
        if len(wanted) > 0:
            self._exchange(len(self.lines) - 1, wanted[0])
        elif fact.kind == SAME:
            # It is made of other sames alone, so it says nothing new, or what cannot be.
            self.lines.pop()
            self.basics.pop()
            if line[-1] != 0:
                sign = 1 if line[-1] > 0 else -1
                return self._fractions(line, sign, {fact.mark: (-sign, 1)})
        return None

    def settle(self):
        """Exchange till no row is below 0; told are the multipliers of a sum below 0 if that cannot be."""
        while True:
            below = [
                (variable, at) for at, variable in enumerate(self.basics)
                if self.kinds[variable] == ROW and self.lines[at][-1] < 0
            ]
            if len(below) == 0:
                return None
            # The first variables are taken each time: so it comes to an end (Bland).
            variable, at = min(below)
            line = self.lines[at]
            above = [
                (other, column) for column, other in enumerate(self.columns)
                if self.kinds[other] == ROW and line[column] > 0
            ]
            if len(above) == 0:
                return self._fractions(line, -1, {self.marks[variable]: (1, 1)})
            self._exchange(at, min(above)[1])

    def spot(self):
        """The loose point at which all columns are 0: numbers, all over one bottom."""
        tops = [0] * self.many
        for at, variable in enumerate(self.basics):
            if variable < self.many:
                tops[variable] = self.lines[at][-1]
        return (tops, self.bottom)

    def _falling(self, line):
        """The column and the turn along which a line falls, None if there is none."""
        found = []
        for column, variable in enumerate(self.columns):
            if self.kinds[variable] == NAME and line[column] != 0:
                found.append((variable, column, -1 if line[column] > 0 else 1))
            if self.kinds[variable] == ROW and line[column] < 0:
                found.append((variable, column, 1))
        return min(found) if len(found) > 0 else None

    def _first_barred(self, column):
        """The line whose row comes to 0 first as a column grows, None if none ever does."""
        best = None
        for at, variable in enumerate(self.basics):
            number = self.lines[at][column]
            if variable is not None and self.kinds[variable] == ROW and number < 0:
                value = self.lines[at][-1]
                if best is None:
                    best = (value, -number, variable, at)
                else:
                    here, there = value * best[1], best[0] * -number
                    if here < there or (here == there and variable < best[2]):
                        best = (value, -number, variable, at)
        return None if best is None else best[3]

    def _ray(self, column, turn):
        """The ray of all names as a column grows."""
        ray = [0] * self.many
        if self.columns[column] < self.many:
            ray[self.columns[column]] = turn * self.bottom
        for at, variable in enumerate(self.basics):
            if variable is not None and variable < self.many:
                ray[variable] = turn * self.lines[at][column]
        return ray

    def lowest_of(self, vector):
        """The end of going down a sum of names, no row being below 0 now; the spot is where it ends."""
        self.lines.append(self._line_of(vector, 0))
        self.basics.append(None)
        end = None
        while end is None:
            line = self.lines[-1]
            falling = self._falling(line)
            if falling is None:
                end = End(None, lowest(line[-1], self.bottom), self._fractions(line, 1, {}))
            else:
                _, column, turn = falling
                at = self._first_barred(column)
                if at is None:
                    end = End(self._ray(column, turn), None, None)
                else:
                    self._exchange(at, column)
        self.lines.pop()
        self.basics.pop()
        return end


def tableau_of(facts, many):
    """The pair of a tableau of the rows and sames among facts, and None; or None and multipliers of a sum below 0."""
    tableau = Tableau(many)
    for fact in facts:
        if fact.kind == SAME:
            fractions = tableau.take(fact)
            if fractions is not None:
                return (None, fractions)
    for fact in facts:
        if fact.kind == ROW:
            tableau.take(fact)
    fractions = tableau.settle()
    if fractions is not None:
        return (None, fractions)
    return (tableau, None)
