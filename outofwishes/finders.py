"""Statements that find what is sought: the sought name at an end, what is behind it, and the wanted terms."""

from outofwishes.drafts import Draft, if_all, in_parts
from outofwishes.flats import cases
from outofwishes.putting import put_in_test
from outofwishes.seeking import Quest, coefficient_in, leaves, quest_for


def first_draft(wish):
    """The draft of nothing set, for a wish's program."""
    return Draft(wish.inputs() + wish.outputs(), [], [], [])


def quests_of(case, outputs):
    """Quests for the outputs of a case, one behind another, with at most one sought name each."""
    quest = quest_for(case, outputs, outputs)
    return [] if quest is None else leaves(quest, 1)


def quests_of_wish(wish):
    """Quests for the outputs of all cases of a wish's body."""
    return [quest for case in cases(wish.body()) for quest in quests_of(case, wish.outputs())]


def _effort(rows, name, side):
    """How much is to be set to find the end of a name by the rows of one side; None if there are none."""
    parts = [coefficient_in(row, name) * side for row in rows]
    own = [part for part in parts if part > 0]
    if len(own) == 0:
        return None
    return (len([part for part in own if part > 1]), len(own))


def _easier_side(rows, name):
    """The side on which the end of a name is easier to find, 1 below, -1 above; 0 if no row has the name."""
    below, above = _effort(rows, name, 1), _effort(rows, name, -1)
    if below is None and above is None:
        return 0
    if below is None or (above is not None and above < below):
        return -1
    return 1


def _end_of(draft, rows, name, side):
    """The term of the end of a name on a side; 0 on no side."""
    return ({}, 0) if side == 0 else draft.end_of(rows, name, side)


def _found_first(draft, quest, side):
    """The pair of a quest with nothing sought any more, and the tests that are to be asked for it.

    What finds the sought name is put to the draft; side 0 lets any end be taken.
    """
    if len(quest.sought) == 0:
        return (quest, quest.tests)
    name = quest.sought[0]
    rows = [test for test in quest.tests if test[0] == "row"]
    side = _easier_side(rows, name) if side == 0 else side
    put = {name: _end_of(draft, rows, name, side)}
    # The rows of this side are so at their end.
    tests = [put_in_test(test, put) for test in quest.tests if coefficient_in(test, name) * side <= 0]
    return (Quest([], [], quest.behind, quest.ends).with_put(put, 1, []), tests)


def _found_behind(draft, quest):
    """The terms by wanted names; what finds the names behind is put to the draft."""
    while len(quest.behind) > 0:
        name, rows = quest.behind[0]
        end = _end_of(draft, rows, name, _easier_side(rows, name))
        quest = Quest([], [], quest.behind[1:], quest.ends).with_put({name: end}, 1, [])
    return {name: draft.over(quest.ends[name][0], quest.ends[name][1]) for name in quest.ends}


class Step:
    """A quest in a statement: what is set ahead, what is asked, the draft where it is granted, and the terms there."""

    def __init__(self, draft, many, tests, quest):
        self.ahead = draft.parts[many:]
        self.tests = tests
        self.set_name = draft.new_name("k")
        self.granted = draft.with_granted(self.set_name, tests)
        self.failed = draft.with_failed(tests)
        self.terms = _found_behind(self.granted, quest)
        self.behind = self.granted.parts[len(draft.parts):]

    def can_fail(self):
        """Whether it is not granted at all inputs."""
        return len(self.tests) > 0

    def told_with(self, statement, other):
        """The statement, one standing where the quest is granted, and another one where it is not."""
        return in_parts(self.ahead, if_all(self.tests, self.set_name, in_parts(self.behind, statement), other))


def next_step(draft, quests, side):
    """The pair of the step of the first quest that can be granted behind a draft, None if none can, and the others.

    Side 1 wants the least number for its sought name, -1 the greatest, 0 any.
    """
    for at, quest in enumerate(quests):
        here = draft.twin()
        first, tests = _found_first(here, quest, side)
        tests = here.asked(tests)
        if tests is not None:
            return (Step(here, len(draft.parts), tests, first), quests[at + 1:])
    return (None, [])
