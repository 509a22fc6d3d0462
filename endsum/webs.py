"""Webs: the corners of a drawing with a number for what joins each two of them.

What joins two corners is told by how many ends of each sort it has at one of
them: the ends at the other one are their partners. So a renaming leads from
web to web just where any two corners have the number that their images have.
"""

# At most five ends of a sort are at a corner, and there are at most three
# sorts. What a corner has by itself stands ahead of these: first its legs,
# then its kind, so that it is never taken for what joins two corners.
SORT_BITS = 3
LEG = 512
KIND = 32768


class Web:
    """The numbers of all two corners, and which corners have them.

    rows[at][to] tells what joins the corner at to another one, rows[at][at]
    its kind, loops and legs. found[to] has for each number the corners at
    with this rows[at][to], as bits; alone has for each number the corners at
    with this rows[at][at].
    """

    def __init__(self, drawing):
        self.rows = _rows(drawing)
        self.found = [_bits([row[to] for row in self.rows]) for to in range(len(self.rows))]
        self.alone = _bits([row[at] for at, row in enumerate(self.rows)])


def _rows(drawing):
    """The numbers of all two corners, and of each by itself."""
    many = len(drawing.corners)
    kinds = {kind: KIND * number for number, (kind, ends) in enumerate(drawing.stock.kinds, start=1)}
    worths = {sort: 1 << (SORT_BITS * at) for at, (sort, partner) in enumerate(drawing.stock.sorts)}
    rows = [[0] * many for corner in drawing.corners]
    for at, kind in enumerate(drawing.corners):
        rows[at][at] = kinds[kind]
    for at, sort, to, partner in drawing.joins:
        if to < many:
            rows[at][to] += worths[sort]
            if at < to:
                rows[to][at] += worths[partner]
        elif at < many:
            rows[at][at] += LEG << (to - many)
    return rows


def _bits(numbers):
    """For each of these numbers the places at which it stands, as bits."""
    found = {}
    for at, number in enumerate(numbers):
        found[number] = found.get(number, 0) | (1 << at)
    return found


def completed(web, other, order, images):
    """Images of all corners in order, which lead from web to other and begin with these, or None."""
    if len(images) == len(order):
        return images
    fit = _fitting(web, other, order, images)
    for image in order:
        if fit >> image & 1:
            whole = completed(web, other, order, (*images, image))
            if whole is not None:
                return whole
    return None


def _fitting(web, other, order, images):
    """The corners, as bits, that may be the image of the next one in order, behind these images."""
    at = order[len(images)]
    row = web.rows[at]
    found = other.found
    fit = other.alone.get(row[at], 0)
    for to, image in zip(order, images):
        fit = fit & found[image].get(row[to], 0)
    return fit


def movers(web, order, many):
    """Images of all corners in order, which lead to the web itself and keep the first many in place.

    There is one for each corner to which the next one can be moved so; the
    first one moves nothing.
    """
    kept = order[:many]
    fit = _fitting(web, web, order, kept)
    found = [order]
    for image in order[many + 1:]:
        if fit >> image & 1:
            whole = completed(web, web, order, (*kept, image))
            if whole is not None:
                found.append(whole)
    return found
