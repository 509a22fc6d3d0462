"""The ways to pair ends by which all corners hang together."""

from endsum.tallies import add_product, below, but_the_first, choices, paired, without


def whole_tallies(stock, most, fits):
    """For all counts up to most, but nothing, the tally of the ways that hang together.

    Of any other way the first corner is in a part, with more beside it. fits
    tells for each number of corners the marks that are asked for; for fewer
    corners these are to be among them.
    """
    ways = {counts: paired(stock, counts, fits[sum(counts)]) for counts in below(most)}
    wholes = {}
    for counts in below(most)[1:]:
        fit = fits[sum(counts)]
        tally = dict(ways[counts])
        others = but_the_first(counts)
        for rest in below(others)[1:]:
            part = without(counts, rest)
            add_product(tally, -choices(others, rest), wholes[part], ways[rest], fit)
        wholes[counts] = {mark: tally[mark] for mark in tally if tally[mark] > 0}
    return wholes
