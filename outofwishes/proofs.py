"""Papers while they are being made: by marks of tests and anys, so that they hold wherever those marks stand."""

from outofwishes.multipliers import told_multipliers
from outofwishes.vectors import numbers_of


class Proof:
    """That some marks bar each point: a told paper's word, the marks that are needed, and what the word wants.

    parts are, of a gauge or a sum, its fractions by marks; of a span, its vector, low, high, and the mark that the
    values' sames have; of an any, its mark, and for each body the marks of its tests and of its anys.
    """

    def __init__(self, word, used, parts, proofs):
        self.word = word
        self.used = used
        self.parts = parts
        self.proofs = proofs


def leaf(word, fractions):
    """The proof that a gauge or a sum is, its fractions by marks."""
    return Proof(word, {mark: True for mark in fractions if fractions[mark][0] != 0}, [fractions], [])


def _used_by(used, proofs):
    """The marks that are used and those that proofs use."""
    found = dict(used)
    for proof in proofs:
        for mark in proof.used:
            found[mark] = True
    return found


def span(mark, vector, low, high, proofs):
    """The proof that a span is: its ends' fractions by marks, and a proof for each value."""
    used = {one: True for one in list(low) + list(high)}
    return Proof("span", _used_by(used, proofs), [mark, vector, low, high], proofs)


def any_of(mark, branches, proofs):
    """The proof that an any is: for each body the marks of its tests and of its anys, and a proof."""
    return Proof("any", _used_by({mark: True}, proofs), [mark, branches], proofs)


def needs_some(proof, marks):
    """Whether a proof uses some of these marks."""
    return any([mark in proof.used for mark in marks])


def told_paper(proof, tests, anys, names):
    """The told paper for a flat system whose tests and anys have these marks."""
    if proof.word in ("gauge", "sum"):
        return (proof.word, told_multipliers(proof.parts[0], tests))
    if proof.word == "span":
        mark, vector, low, high = proof.parts
        papers = [told_paper(inner, tests + [mark], anys, names) for inner in proof.proofs]
        numbers = numbers_of(vector, names)
        term = ({name: numbers[name] for name in numbers if numbers[name] != 0}, 0)
        return ("span", term, told_multipliers(low, tests), told_multipliers(high, tests), papers)
    mark, branches = proof.parts
    others = [other for other in anys if other != mark]
    papers = [
        told_paper(inner, tests + branch[0], others + branch[1], names)
        for branch, inner in zip(branches, proof.proofs)
    ]
    return ("any", anys.index(mark), papers)
