"""The ways to pair ends by which all corners hang together, and no cut parts them.

A drawing with cuts falls into pieces, and some of these hang by one cut alone.
There are as many ways to take away an even number of them as an odd number.
So let all whole ways, with some of their ends led on to free ways, come in as
one more where the number of these ends is even, and as one less where it is
odd: what comes to more than nothing has no cuts. Only of two pieces not both
can be taken away: these come to one less, which is to be made up for.
"""

from endsum.tallies import (add_product, below, but_the_first, choices, mark_of, mark_of_one,
                            marks_within, taken_out, without)
from endsum.wholes import whole_tallies


class Frees:
    """The free ways of all counts up to most, with so many open ends of each sort.

    cores has for all counts, by marks, the whole ways with these ends taken
    out in a row. led has for all counts, by sorts, the free ways with an end
    of the sort taken out. branches has for all counts, by the marks of the
    ends that lead there, the sets of such free ways, each of which comes in
    as one less.
    """

    def __init__(self, stock, most, numbers):
        sorts = [sort for sort, partner in stock.sorts]
        total = sum(most)
        fits = [marks_within(numbers, total - many) for many in range(total + 1)]
        wholes = whole_tallies(stock, most, fits)
        self.partners = [sorts.index(partner) for sort, partner in stock.sorts]
        self.mark = mark_of(numbers)
        self.fit = fits[total]
        self.cores = {counts: _cores(wholes[counts], len(sorts)) for counts in wholes}
        self.led = {}
        self.branches = {below(most)[0]: {0: {0: 1}}}
        for counts in below(most)[1:-1]:
            self.led[counts] = [self._left_of(counts, mark_of_one(at)) for at in range(len(sorts))]
            self.branches[counts] = self._branches_of(counts)

    def _left_of(self, counts, taken):
        """What the whole ways led on to free ones come to, with the ends of a mark taken out."""
        tally = {}
        for core in below(counts)[1:]:
            times = choices(counts, core)
            for mark, branch in self.branches[without(counts, core)].items():
                add_product(tally, times, self.cores[core].get(mark + taken, {}), branch, self.fit)
        return tally

    def _branches_of(self, counts):
        """By the marks of the ends that lead there, the sets of free ways of so many corners in all."""
        found = {}
        others = but_the_first(counts)
        for rest in below(others):
            times = -choices(others, rest)
            # The free way with the first corner is led to by an end of each sort.
            led = self.led[without(counts, rest)]
            for at, partner in enumerate(self.partners):
                for mark, branch in self.branches[rest].items():
                    tally = found.setdefault(mark + mark_of_one(at), {})
                    add_product(tally, times, led[partner], branch, self.fit)
        return found

    def ways(self, counts):
        """How many free ways there are of so many corners of each kind."""
        tally = self._left_of(counts, 0)
        joined = {}
        for part in below(counts)[1:-1]:
            rest = without(counts, part)
            for at, partner in enumerate(self.partners):
                led, behind = self.led[part][at], self.led[rest][partner]
                add_product(joined, choices(counts, part), led, behind, self.fit)
        # Each two come twice, once from either side.
        return tally.get(self.mark, 0) + joined.get(self.mark, 0) // 2


def _cores(whole, sorts):
    """By marks the ways with these ends of so many sorts taken out in a row, as far as there are any."""
    cores = {0: whole}
    for at in range(sorts):
        for mark, tally in list(cores.items()):
            reached = mark + mark_of_one(at)
            further = taken_out(tally, at)
            while further:
                cores[reached] = further
                reached += mark_of_one(at)
                further = taken_out(further, at)
    return cores
