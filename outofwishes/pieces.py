"""The pieces of a text, and a reader that goes over them and knows what could stand where it is."""

from outofwishes.kinds import FIGURES, is_name, is_run

BLANKS = " \n"
LONG_SIGNS = ("<=", ">=")


def is_number_text(piece):
    """Whether a piece is a number as Python writes it."""
    if piece == "" or not all([sign in FIGURES for sign in piece]):
        return False
    return piece == "0" or piece[0] != "0"


def number_of(piece):
    """The number that a piece writes."""
    # Figure by figure: Python's own reading bars texts of very many figures.
    number = 0
    for sign in piece:
        number = 10 * number + FIGURES.index(sign)
    return number


def end_of_piece(text, start):
    """The place behind the piece that starts at a place."""
    if text[start:start + 2] in LONG_SIGNS:
        return start + 2
    end = start
    while end < len(text) and is_run(text[end]):
        end += 1
    return max(end, start + 1)


def pieces_of(text):
    """The list of pairs of a place and the piece there; the last one is the end, an empty piece."""
    pieces = []
    at = 0
    while at < len(text):
        if text[at] in BLANKS:
            at += 1
        else:
            end = end_of_piece(text, at)
            pieces.append((at, text[at:end]))
            at = end
    pieces.append((len(text), ""))
    return pieces


class Astray(Exception):
    """The piece at which a reader is cannot stand there."""


class Reader:
    """Takes one piece of a text behind another; keeps all that was asked for at the piece that is next."""

    def __init__(self, text):
        self._pieces = pieces_of(text)
        self._at = 0
        self._sorts = {}

    def _next(self):
        return self._pieces[self._at][1]

    def _go_on(self):
        self._at = self._at + 1
        self._sorts = {}

    def takes(self, piece):
        """Take this word or sign, or "" for the end, behind which nothing is read; tell whether it was next."""
        self._sorts[piece] = True
        if self._next() != piece:
            return False
        self._go_on()
        return True

    def needs(self, piece):
        """Take this word or sign, which alone can stand here beside what was asked for before."""
        if not self.takes(piece):
            raise Astray()

    def needs_name(self, known):
        """Take a known name and tell it."""
        if len(known) > 0:
            self._sorts["name"] = True
        piece = self._next()
        if piece not in known:
            raise Astray()
        self._go_on()
        return piece

    def needs_new(self, barred):
        """Take a name that is not barred and tell it."""
        self._sorts["new"] = True
        piece = self._next()
        if not is_name(piece) or piece in barred:
            raise Astray()
        self._go_on()
        return piece

    def takes_number(self):
        """Take a number and tell it, or None."""
        self._sorts["number"] = True
        piece = self._next()
        if not is_number_text(piece):
            return None
        self._go_on()
        return number_of(piece)

    def needs_positive(self):
        """Take a number from 1 on and tell it."""
        self._sorts["positive"] = True
        piece = self._next()
        if not is_number_text(piece) or piece == "0":
            raise Astray()
        self._go_on()
        return number_of(piece)

    def fault(self):
        """The pair of the place of the next piece and the ascending list of what could stand there."""
        return (self._pieces[self._at][0], sorted(self._sorts))


def read_or_fault(text, read_whole):
    """What read_whole reads from a reader of the text and None, or None and the fault."""
    if not isinstance(text, str):
        return (None, (0, ["of"]))
    reader = Reader(text)
    try:
        return (read_whole(reader), None)
    except Astray:
        return (None, reader.fault())
