"""Texts of lists of names, of sums and of tests: read and written."""

from outofwishes.terms import less, names_of, sum_of, turned


def read_new_names(reader, barred):
    """Read new names with commas between them, or "nothing"."""
    if reader.takes("nothing"):
        return []
    names = [reader.needs_new(barred)]
    while reader.takes(","):
        names.append(reader.needs_new(barred + names))
    return names


def behind_number(reader, known, number):
    """The part that a number, just taken, begins: the number alone, or times a known name."""
    # Where no name is known none could stand behind the sign, so the sign itself cannot stand.
    if len(known) > 0 and reader.takes("*"):
        return ({reader.needs_name(known): number}, 0)
    return ({}, number)


def read_part(reader, known):
    """Read a part of a sum: a number, a known name, or both."""
    number = reader.takes_number()
    if number is None:
        return ({reader.needs_name(known): 1}, 0)
    return behind_number(reader, known, number)


def rest_of_sum(reader, known, first):
    """Read the parts behind the first one, and tell the whole sum."""
    parts = [first]
    while True:
        if reader.takes("+"):
            parts.append(read_part(reader, known))
        elif reader.takes("-"):
            parts.append(turned(read_part(reader, known)))
        else:
            return sum_of(parts)


def read_sum(reader, known):
    """Read a sum of known names and numbers."""
    if reader.takes("-"):
        return rest_of_sum(reader, known, turned(read_part(reader, known)))
    return rest_of_sum(reader, known, read_part(reader, known))


def rest_of_test(reader, known, left):
    """Read the sign behind a left sum and the right sum, and tell the test."""
    if reader.takes("<="):
        return ("row", sum_of([read_sum(reader, known), turned(left)]))
    if reader.takes("<"):
        return ("row", less(sum_of([read_sum(reader, known), turned(left)]), 1))
    if reader.takes(">="):
        return ("row", sum_of([left, turned(read_sum(reader, known))]))
    if reader.takes(">"):
        return ("row", less(sum_of([left, turned(read_sum(reader, known))]), 1))
    reader.needs("=")
    return ("same", sum_of([left, turned(read_sum(reader, known))]))


def read_test(reader, known):
    """Read two sums with a sign between them, or a number that divides a sum."""
    number = reader.takes_number()
    if number is None:
        return rest_of_test(reader, known, read_sum(reader, known))
    if number >= 1 and reader.takes("divides"):
        return ("by", number, read_sum(reader, known))
    first = behind_number(reader, known, number)
    return rest_of_test(reader, known, rest_of_sum(reader, known, first))


def list_text(texts):
    """Texts of names, sums or tests with commas between them, or "nothing"."""
    if len(texts) == 0:
        return "nothing"
    return ", ".join(texts)


def part_text(number, name):
    """A number from 1 on times a name, or alone if there is no name."""
    if name == "":
        return str(number)
    if number == 1:
        return name
    return f"{number} * {name}"


def sum_text(term):
    """A sum that reads as this told term."""
    parts = [(term[0][name], name) for name in names_of(term)]
    if term[1] != 0:
        parts.append((term[1], ""))
    if len(parts) == 0:
        return "0"
    texts = []
    for number, name in parts:
        if len(texts) == 0:
            texts.append(("-" if number < 0 else "") + part_text(abs(number), name))
        else:
            texts.append((" - " if number < 0 else " + ") + part_text(abs(number), name))
    return "".join(texts)


def parts_above(term):
    """The parts above 0 of a term."""
    return ({name: term[0][name] for name in term[0] if term[0][name] > 0}, max(term[1], 0))


def test_text(test):
    """A text that reads as this told test."""
    if test[0] == "by":
        return f"{test[1]} divides {sum_text(test[2])}"
    above = sum_text(parts_above(test[1]))
    below = sum_text(parts_above(turned(test[1])))
    if test[0] == "row":
        return f"{below} <= {above}"
    return f"{above} = {below}"
