"""The kinds of things that all else is made of: integers, lists, names, dicts of numbers."""

from outofwishes.errors import BadInputs, BadOutputs

LETTERS = "abcdefghijklmnopqrstuvwxyz"
FIGURES = "0123456789"
MOST_SIGNS = 8
WORDS = (
    "of", "give", "nothing", "and", "or", "not", "all", "any", "divides",
    "none", "let", "most", "if", "else", "first", "below", "by", "over",
)


def is_whole(thing):
    """Whether a thing is an integer; bools are none."""
    return isinstance(thing, int) and not isinstance(thing, bool)


def is_from_one(thing):
    """Whether a thing is an integer from 1 on."""
    return is_whole(thing) and thing >= 1


def is_list(thing):
    """Whether a thing is a list or a tuple, which mean the same."""
    return isinstance(thing, (list, tuple))


def is_run(thing):
    """Whether a thing is a string of letters and figures, and not empty."""
    if not isinstance(thing, str) or thing == "":
        return False
    return all([sign in LETTERS or sign in FIGURES for sign in thing])


def is_name(thing):
    """Whether a thing is a name."""
    return is_run(thing) and len(thing) <= MOST_SIGNS and thing[0] in LETTERS and thing not in WORDS


def bad_name_at(names, barred):
    """The index of the first thing that is no name, is barred or stood before; 0 for no list, None if all is well."""
    if not is_list(names):
        return 0
    before = {name: True for name in barred}
    for index, name in enumerate(names):
        # Asked first: what is no name may be none that a dict can be asked for.
        if not is_name(name) or name in before:
            return index
        before[name] = True
    return None


def check_inputs_outputs(inputs, outputs):
    """Raise BadInputs or BadOutputs if these are not two lists of names, all unlike one another."""
    index = bad_name_at(inputs, [])
    if index is not None:
        raise BadInputs(index)
    index = bad_name_at(outputs, inputs)
    if index is not None:
        raise BadOutputs(index)


def is_numbers(thing):
    """Whether a thing is a dict from names to integers."""
    if not isinstance(thing, dict):
        return False
    return all([is_name(name) and is_whole(thing[name]) for name in thing])


def is_numbers_with(thing, names):
    """Whether a thing is a dict from names to integers that lacks none of these names."""
    return is_numbers(thing) and all([name in thing for name in names])


def is_numbers_of(thing, names):
    """Whether a thing is a dict from just these names to integers."""
    return is_numbers_with(thing, names) and len(thing) == len(names)


def told_numbers(numbers):
    """A new dict of the same numbers, by ascending names."""
    return {name: numbers[name] for name in sorted(numbers)}
