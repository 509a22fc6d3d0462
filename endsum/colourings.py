"""Sums over all ways to give colours to the ends of corners, reckoned corner by corner.

A table is a dict from tuples of colours to numbers. What is reckoned up to a
corner is a table by the colours of ends that wait: joins of former corners
lead to them, but their own corners are still to come. Tails are a dict that
tells, for the colours of some ends of the corner, what lies behind these: a
list of (colours of ends that wait, number).
"""


def sum_over_colourings(drawing, weights, legs):
    """The sum, over all ways to colour the ends of corners, of the product of all numbers."""
    sums = {(): _product_of_legs(drawing, weights, legs)}
    waiting = []
    for at, kind in enumerate(drawing.corners):
        met = [join for join in waiting if join[2] == at]
        own = [join for join in drawing.joins if join[0] == at]
        sorts = [join[3] for join in met]
        for join in own:
            sorts.extend(_near_sorts(join))
        table = _coloured(weights, kind, sorts)
        for join in reversed(own):
            table = _led_on(table, _tails_of(drawing, weights, legs, join), len(_near_sorts(join)))
        sums = _led_on(table, _tails_behind(sums, waiting, at), len(met))
        waiting = [join for join in waiting + own if at < join[2] < len(drawing.corners)]
    return sums.get((), 0)


def _number_of(weights, one, other):
    """The number of a join of two ends (sort, colour)."""
    return weights.joins.get(min(one, other) + max(one, other), 0)


def _product_of_legs(drawing, weights, legs):
    """The product of the numbers of all joins of two legs."""
    many = len(drawing.corners)
    colours = [legs[name] for name, sort in drawing.legs]
    total = 1
    for place, sort, to, partner in drawing.joins:
        if place >= many:
            total = total * _number_of(weights, (sort, colours[place - many]), (partner, colours[to - many]))
    return total


def _near_sorts(join):
    """The sorts of the ends that a join has at its first place."""
    if join[0] == join[2]:
        return [join[1], join[3]]
    return [join[1]]


def _coloured(weights, kind, sorts):
    """The table of a corner by the colours of its ends, in the order of these sorts."""
    rows = [()]
    for _ in sorts:
        rows = [(*row, colour) for row in rows for colour in range(weights.colours)]
    table = {}
    for row in rows:
        ordered = tuple([colour for sort, colour in sorted(zip(sorts, row))])
        number = weights.corners.get((kind, ordered), 0)
        if number != 0:
            table[row] = number
    return table


def _tails_of(drawing, weights, legs, join):
    """The tails of a join at its first corner: at its other end a colour waits, if at another corner."""
    place, sort, to, partner = join
    leg = to - len(drawing.corners)
    tails = {}
    for colour in range(weights.colours):
        for other in range(weights.colours):
            number = _number_of(weights, (sort, colour), (partner, other))
            if place == to:
                tails[(colour, other)] = [((), number)]
            elif leg < 0:
                tails.setdefault((colour,), []).append(((other,), number))
            elif legs[drawing.legs[leg][0]] == other:
                tails[(colour,)] = [((), number)]
    return tails


def _tails_behind(sums, waiting, at):
    """The tails of all that is reckoned so far, at the ends of a corner that wait."""
    here = [place for place, join in enumerate(waiting) if join[2] == at]
    others = [place for place, join in enumerate(waiting) if join[2] != at]
    tails = {}
    for colours, total in sums.items():
        met = tuple([colours[place] for place in here])
        left = tuple([colours[place] for place in others])
        tails.setdefault(met, []).append((left, total))
    return tails


def _led_on(table, tails, many):
    """The table with the last so many colours led on: what waits behind them stands first."""
    after = {}
    for colours, total in table.items():
        last = len(colours) - many
        for beyond, number in tails.get(colours[last:], []):
            key = beyond + colours[:last]
            after[key] = after.get(key, 0) + total * number
    return after
