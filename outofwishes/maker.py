"""Wishes at inputs, for which inputs they are granted, and programs made that grant them."""

from outofwishes.bodies import told_body
from outofwishes.errors import BadGiven
from outofwishes.finders import first_draft, next_step, quests_of_wish
from outofwishes.kinds import is_numbers_of
from outofwishes.programs import Program
from outofwishes.putting import put_in_body
from outofwishes.seeking import coefficient_in, leaves, quest_for, rows_of
from outofwishes.wishes import System, check_wish


def system_at(wish, given):
    """The system of the outputs that do for inputs."""
    check_wish(wish)
    if not is_numbers_of(given, wish.inputs()):
        raise BadGiven(given)
    return System(wish.outputs(), [put_in_body(wish.body(), {name: ({}, given[name]) for name in given})])


def _put_together(kind, bodies):
    """An all or an any of bodies; of one body that body itself."""
    return bodies[0] if len(bodies) == 1 else (kind, bodies)


def _some_between(low, high, name):
    """A body that is so just where a lower and an upper row of a name let it have some integer."""
    quest = quest_for([low, high], [name], [])
    found = [] if quest is None else [_put_together("all", leaf.tests) for leaf in leaves(quest, 0)]
    return _put_together("any", found)


def _granted(quest):
    """A body that is so just where a quest, with one sought name at most, finds what it seeks."""
    if len(quest.sought) == 0:
        return _put_together("all", quest.tests)
    name = quest.sought[0]
    lower, upper = rows_of(quest.tests, name)
    # Some integer is from the greatest of lower ends to the least of upper ones if it is so of each two of them.
    pairs = [_some_between(low, high, name) for low in lower for high in upper]
    return _put_together("all", [test for test in quest.tests if coefficient_in(test, name) == 0] + pairs)


def when(wish):
    """A body of the inputs that is so just where some outputs do."""
    check_wish(wish)
    return told_body(_put_together("any", [_granted(quest) for quest in quests_of_wish(wish)]))


def _made(draft, quests, outputs):
    """The statement that gives what the first quest to be granted finds, or none."""
    step, others = next_step(draft, quests, 0)
    if step is None:
        return ("none",)
    other = _made(step.failed, others, outputs) if step.can_fail() else ("none",)
    return step.told_with(("give", [step.terms[name] for name in outputs]), other)


def made(wish):
    """A program that gives outputs that do wherever some do, and none elsewhere."""
    check_wish(wish)
    outputs = wish.outputs()
    return Program(wish.inputs(), outputs, _made(first_draft(wish), quests_of_wish(wish), outputs))
