"""All errors of the package; each keeps what it was made with."""


class WishError(ValueError):
    """What all errors of the package are."""


class BadTerm(WishError):
    """What was passed is no term."""

    def __init__(self, term):
        self.term = term


class BadTerms(WishError):
    """A list of terms has something else at this index; 0 for no list."""

    def __init__(self, index):
        self.index = index


class BadNumber(WishError):
    """What was passed is no integer."""

    def __init__(self, number):
        self.number = number


class BadNumbers(WishError):
    """What was passed is no dict from names to integers, or lacks a name that is wanted."""

    def __init__(self, numbers):
        self.numbers = numbers


class BadBody(WishError):
    """What was passed is no body."""

    def __init__(self, body):
        self.body = body


class BadInputs(WishError):
    """The inputs have what cannot be an input at this index; 0 for no list."""

    def __init__(self, index):
        self.index = index


class BadOutputs(WishError):
    """The outputs have what cannot be an output at this index; 0 for no list."""

    def __init__(self, index):
        self.index = index


class StrangeName(WishError):
    """A body or a term has a name that does not belong there."""

    def __init__(self, name):
        self.name = name


class BadWish(WishError):
    """What was passed is no Wish."""

    def __init__(self, wish):
        self.wish = wish


class BadGiven(WishError):
    """What was passed is no dict from just all inputs to integers."""

    def __init__(self, given):
        self.given = given


class BadFound(WishError):
    """What was passed is no dict from just all outputs to integers."""

    def __init__(self, found):
        self.found = found


class BadNames(WishError):
    """The names have what cannot be a name of the system at this index; 0 for no list."""

    def __init__(self, index):
        self.index = index


class BadBodies(WishError):
    """A list of bodies has something else at this index; 0 for no list."""

    def __init__(self, index):
        self.index = index


class BadSystem(WishError):
    """What was passed is no System."""

    def __init__(self, system):
        self.system = system


class BadTest(WishError):
    """What was passed is no test."""

    def __init__(self, test):
        self.test = test


class BadCase(WishError):
    """A case has what is no test at this index; 0 for no list."""

    def __init__(self, index):
        self.index = index


class NotEven(WishError):
    """Where sames and bys alone are let, the flat test at this index is a row, or anys stand behind so many."""

    def __init__(self, index):
        self.index = index


class BadSolution(WishError):
    """What was passed is no solution of the system."""

    def __init__(self, solution):
        self.solution = solution


class BadPoint(WishError):
    """What was passed is no point of the system."""

    def __init__(self, point):
        self.point = point


class NotLoose(WishError):
    """Where rows and sames alone are let, the flat test at this index is a by, or anys stand behind so many."""

    def __init__(self, index):
        self.index = index


class BadIndexes(WishError):
    """A list of indexes has what cannot stand there at this index; 0 for no list."""

    def __init__(self, index):
        self.index = index


class NoRow(WishError):
    """What was passed is no index of a body that is a row."""

    def __init__(self, index):
        self.index = index


class BadStatement(WishError):
    """What stands at this place is no statement by itself."""

    def __init__(self, place):
        self.place = place


class BadProgram(WishError):
    """What was passed is no Program."""

    def __init__(self, program):
        self.program = program


class BadPlace(WishError):
    """What was passed is no place of the program."""

    def __init__(self, place):
        self.place = place


class UnlikeNames(WishError):
    """The inputs or the outputs of the two are not the same."""


class BadName(WishError):
    """What was passed is no name that can be taken here."""

    def __init__(self, name):
        self.name = name


class BadLow(WishError):
    """What was passed as the low end is no term that can be one."""

    def __init__(self, low):
        self.low = low


class BadHigh(WishError):
    """What was passed as the high end is no term that can be one."""

    def __init__(self, high):
        self.high = high


class NoInput(WishError):
    """What was passed is no input of the wish."""

    def __init__(self, name):
        self.name = name


class NotOneCase(WishError):
    """The body has so many cases, not one."""

    def __init__(self, many):
        self.many = many


class BadCode(WishError):
    """What was passed is no code for the program."""

    def __init__(self, code):
        self.code = code


class BadChart(WishError):
    """What was passed is no chart of the program and the code."""

    def __init__(self, chart):
        self.chart = chart
