"""The ways along a drawing's lines: which points they go to, and which panes they go round."""

from glasscartoons.plane import holds, turn_of, twice_area


def links_of(drawing):
    """For each point the points that lines join it with."""
    links = [[] for point in drawing.points]
    for first, second in drawing.lines:
        links[first].append(second)
        links[second].append(first)
    return links


def reached(links, start, shut):
    """The points to which a way goes from the start that keeps off the shut one, as a dict of True."""
    found = {start: True}
    waiting = [start]
    while waiting:
        here = waiting.pop()
        for number in links[here]:
            if number != shut and number not in found:
                found[number] = True
                waiting.append(number)
    return found


def leftward(points, middle, numbers):
    """The numbers of points on one side of the middle, in order as one turns to the left there."""
    row = []
    for number in numbers:
        k = len(row)
        while k > 0 and turn_of(points[middle], points[number], points[row[k - 1]]) > 0:
            k -= 1
        row.insert(k, number)
    return row


def ring_of(points, middle, numbers):
    """The numbers of points about the middle, as one turns to the left there all the way round."""
    # Points that come behind the middle are above it or straight to the right, the others below or to
    # the left: each half is less than a whole half turn, so a turn tells the order in it.
    behind = [number for number in numbers if number > middle]
    ahead = [number for number in numbers if number < middle]
    return leftward(points, middle, behind) + leftward(points, middle, ahead)


def steps_behind(drawing):
    """For each step from a point to one that a line joins it with: the step that follows on the outline to its left."""
    follow = {}
    for middle, numbers in enumerate(links_of(drawing)):
        ring = ring_of(drawing.points, middle, numbers)
        for k, number in enumerate(ring):
            # The sharpest turn to the left leads to the one ahead in the ring (of the first, the last).
            follow[(number, middle)] = (middle, ring[k - 1])
    return follow


def walk(follow, start, gone):
    """The points from which the steps go, from the start round to it again; the steps are put down as gone."""
    outline = []
    step = start
    while step not in gone:
        gone[step] = True
        outline.append(step[0])
        step = follow[step]
    return outline


def corners_of(drawing, outline):
    """The points whose numbers the outline has."""
    return [drawing.points[number] for number in outline]


def outlines_of(drawing):
    """The outlines of all panes of a drawing that breaks none of the rules 1 to 10."""
    follow = steps_behind(drawing)
    gone = {}
    outlines = []
    # Steps from lower points come first, so an outline that is still to be gone has no lower one than its start.
    for step in sorted(follow):
        if step not in gone:
            outline = walk(follow, step, gone)
            # The outside of the frame has it to its right.
            if twice_area(corners_of(drawing, outline)) > 0:
                outlines.append(outline)
    return outlines


def holder_of(shapes, spot):
    """The number of the first of the shapes, rows of corners, that holds the spot; -1 if none does."""
    for number, corners in enumerate(shapes):
        if holds(corners, spot):
            return number
    return -1


def steps_round(outline):
    """The steps from corner to corner round an outline; the one from the last to the first stands ahead."""
    return [(outline[k - 1], outline[k]) for k in range(len(outline))]


def left_panes(panes):
    """For each step that has a pane to its left: the pane's number."""
    left = {}
    for number, outline in enumerate(panes):
        for step in steps_round(outline):
            left[step] = number
    return left


def panes_beside(panes, number):
    """The numbers of the panes that have a line in common with the one of this number, rising."""
    left = left_panes(panes)
    beside = []
    for first, second in steps_round(panes[number]):
        # The way back has the pane beyond the line to its left, or none if the outside is there.
        if (second, first) in left:
            beside.append(left[(second, first)])
    return sorted(set(beside))
