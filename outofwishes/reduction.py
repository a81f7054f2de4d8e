"""Vectors made short by whole multiples of one another, in integers alone."""

from outofwishes.vectors import dot, stepped


def nearest(top, bottom):
    """The integer nearest to top / bottom, the bottom being above 0."""
    return (2 * top + bottom) // (2 * bottom)


def _swap(rows, at):
    rows[at - 1], rows[at] = rows[at], rows[at - 1]


class Reduction:
    """Vectors that are being reduced.

    What goes along is changed as the vectors are; what stands against them the other way about, so that products of
    the one with the other stay what they are.
    """

    def __init__(self, vectors, along, against):
        self.vectors = list(vectors)
        self.along = list(along)
        self.against = list(against)
        # Determinants of the products of the first vectors, and the shares of each vector in those ahead, times them.
        self.sizes = [1]
        self.shares = []
        for at in range(len(self.vectors)):
            self._measure(at)

    def _share(self, vector, other, shares, beside):
        """The share of a vector in the vector other, its shares in those ahead and other's in them being known."""
        found = dot(vector, other)
        for ahead, (share, part) in enumerate(zip(shares, beside)):
            found = (self.sizes[ahead + 1] * found - share * part) // self.sizes[ahead]
        return found

    def _shares_in(self, vector, many):
        """The shares of a vector in the first so many vectors."""
        shares = []
        for at in range(many):
            shares.append(self._share(vector, self.vectors[at], shares, self.shares[at]))
        return shares

    def _measure(self, at):
        """Find the shares and the size of one vector, those ahead being measured."""
        vector = self.vectors[at]
        shares = self._shares_in(vector, at)
        self.shares.append(shares)
        self.sizes.append(self._share(vector, vector, shares, shares))

    def _shorten(self, at, by):
        """Take the vector at by off the one at at, as often as makes it shortest."""
        times = nearest(self.shares[at][by], self.sizes[by + 1])
        if times == 0:
            return
        self.vectors[at] = stepped(self.vectors[at], -times, self.vectors[by])
        self.along[at] = stepped(self.along[at], -times, self.along[by])
        self.against[by] = stepped(self.against[by], times, self.against[at])
        shares = list(self.shares[at])
        shares[by] = shares[by] - times * self.sizes[by + 1]
        for ahead in range(by):
            shares[ahead] = shares[ahead] - times * self.shares[by][ahead]
        self.shares[at] = shares

    def _exchange(self, at):
        """Exchange the vector at at with the one ahead of it."""
        _swap(self.vectors, at)
        _swap(self.along, at)
        _swap(self.against, at)
        share = self.shares[at][at - 1]
        here, ahead = self.shares[at], self.shares[at - 1]
        self.shares[at - 1], self.shares[at] = here[:at - 1], ahead + [share]
        size = (self.sizes[at - 1] * self.sizes[at + 1] + share * share) // self.sizes[at]
        for behind in range(at + 1, len(self.vectors)):
            shares = list(self.shares[behind])
            second = shares[at]
            shares[at] = (self.sizes[at + 1] * shares[at - 1] - share * second) // self.sizes[at]
            shares[at - 1] = (size * second + share * shares[at]) // self.sizes[at + 1]
            self.shares[behind] = shares
        self.sizes[at] = size

    def run(self):
        """Reduce the vectors, as Lenstra, Lenstra and Lovasz do."""
        at = 1
        while at < len(self.vectors):
            self._shorten(at, at - 1)
            share = self.shares[at][at - 1]
            if 4 * (self.sizes[at + 1] * self.sizes[at - 1] + share * share) < 3 * self.sizes[at] * self.sizes[at]:
                self._exchange(at)
                at = max(1, at - 1)
            else:
                for by in reversed(range(at - 1)):
                    self._shorten(at, by)
                at += 1

    def reduced(self, vector):
        """A vector made short by the vectors, which are reduced."""
        shares = self._shares_in(vector, len(self.vectors))
        for by in reversed(range(len(self.vectors))):
            times = nearest(shares[by], self.sizes[by + 1])
            vector = stepped(vector, -times, self.vectors[by])
            for ahead in range(by):
                shares[ahead] = shares[ahead] - times * self.shares[by][ahead]
        return vector
