"""Points of the plane, as pairs x, y, and the straight lines between them."""


def turn_of(p, q, r):
    """Above 0 if the way p q r turns to the left, below 0 if to the right, 0 if the three are in a row."""
    return (q[0] - p[0]) * (r[1] - q[1]) - (q[1] - p[1]) * (r[0] - q[0])


def by_height(spot):
    """What spots are put in order by: y, of one y x."""
    return (spot[1], spot[0])


def comes_behind(q, p):
    """Whether q comes behind p: by y, of one y by x."""
    return by_height(q) > by_height(p)


def is_on(p, q, r):
    """Whether r is on the line p q; the ends are on it."""
    if r[1] < min(p[1], q[1]) or r[1] > max(p[1], q[1]):
        return False
    if r[0] < min(p[0], q[0]) or r[0] > max(p[0], q[0]):
        return False
    return turn_of(p, q, r) == 0


def parts(p, q, r, s):
    """Whether r lies to the one side of the way through p and q, and s to the other."""
    first = turn_of(p, q, r)
    second = turn_of(p, q, s)
    return first < 0 < second or second < 0 < first


def crosses(p, q, r, s):
    """Whether the lines p q and r s cross, of which neither has an end of the other between its own."""
    return parts(p, q, r, s) and parts(r, s, p, q)


def twice_area(corners):
    """Twice the area within the corners; below 0 if it is to the right of the way round."""
    twice = 0
    before = corners[-1]
    for corner in corners:
        twice += before[0] * corner[1] - before[1] * corner[0]
        before = corner
    return twice


def is_right_of(p, q, spot):
    """Whether the line p q is met on the way from the spot straight to the right.

    Of a line's ends the lower one counts and the upper one doesn't, so that a way through a corner
    meets the lines there once if the outline goes on upwards and not at all, or twice, if it turns back.
    """
    if p[1] <= spot[1] < q[1]:
        return turn_of(p, q, spot) > 0
    if q[1] <= spot[1] < p[1]:
        return turn_of(q, p, spot) > 0
    return False


def holds(corners, spot):
    """Whether the spot, which is on no line of the outline with these corners, is within it."""
    within = False
    before = corners[-1]
    for corner in corners:
        if is_right_of(before, corner, spot):
            within = not within
        before = corner
    return within
