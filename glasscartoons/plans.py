"""The calls. Each answers a list of whole numbers: a refusal, or 0 and what is told."""

from glasscartoons.drawings import write_drawing
from glasscartoons.moves import flipped, joined, quarter_turned, scaled
from glasscartoons.outlines import corners_of, holder_of, left_panes, panes_beside
from glasscartoons.plane import turn_of, twice_area
from glasscartoons.rules import examine, is_on_some_line, is_too_great, is_too_long

# By how much a rule's number is more in a refusal of join's second cartoon.
SECOND = 16

# 2 to the power of 64: the numbers of turned are below it in size.
SIZE_END = 18446744073709551616


def judge(cartoon):
    """Whether the bytes are a cartoon: nothing is told if they are."""
    verdict = examine(cartoon)
    if verdict.refusal:
        return verdict.refusal
    return [0]


def count(what, cartoon):
    """How many points (what 0), lines (1) or panes (2) there are."""
    if what > 2:
        return [-1]
    verdict = examine(cartoon)
    if verdict.refusal:
        return verdict.refusal
    drawing = verdict.drawing
    rows = (drawing.points, drawing.lines, verdict.panes)
    return [0, len(rows[what])]


def pane_refusal(i, verdict):
    """The refusal of the bytes, or else of a pane that they don't have; an empty list if there is none."""
    if verdict.refusal:
        return verdict.refusal
    if i >= len(verdict.panes):
        return [-2]
    return []


def row_told(row):
    """The answer that tells a row: how many, then they."""
    return [0, len(row)] + row


def drawing_told(drawing):
    """The answer that tells what comes of a cartoon: how many bytes, then they; a refusal if it would be none."""
    if is_too_great(drawing):
        return [-6]
    return row_told(write_drawing(drawing))


def pane(i, cartoon):
    """The row of pane i's corners: how many, then their numbers."""
    verdict = examine(cartoon)
    refusal = pane_refusal(i, verdict)
    if refusal:
        return refusal
    return row_told(verdict.panes[i])


def area(i, cartoon):
    """Twice pane i's area."""
    verdict = examine(cartoon)
    refusal = pane_refusal(i, verdict)
    if refusal:
        return refusal
    return [0, twice_area(corners_of(verdict.drawing, verdict.panes[i]))]


def at(x, y, cartoon):
    """The number of the pane that holds the point (x, y)."""
    verdict = examine(cartoon)
    if verdict.refusal:
        return verdict.refusal
    spot = (x, y)
    # A line's points would be told of one of its panes by chance: they are kept out first.
    if is_on_some_line(verdict.drawing, spot):
        return [-2]
    found = holder_of([corners_of(verdict.drawing, outline) for outline in verdict.panes], spot)
    if found < 0:
        return [-2]
    return [0, found]


def sides(line, cartoon):
    """The numbers of the panes to the left and to the right of a line, from its first point on; -1 for the outside."""
    verdict = examine(cartoon)
    if verdict.refusal:
        return verdict.refusal
    lines = verdict.drawing.lines
    if line >= len(lines):
        return [-2]
    step = lines[line]
    left = left_panes(verdict.panes)
    # What is to the right of a line is to the left of the way back.
    return [0, left.get(step, -1), left.get((step[1], step[0]), -1)]


def next_to(i, cartoon):
    """The row of the panes that have a line in common with pane i: how many, then their numbers."""
    verdict = examine(cartoon)
    refusal = pane_refusal(i, verdict)
    if refusal:
        return refusal
    return row_told(panes_beside(verdict.panes, i))


def turn(quarters, cartoon):
    """The bytes of the cartoon turned to the left by so many quarters: how many, then they."""
    if quarters > 3:
        return [-1]
    verdict = examine(cartoon)
    if verdict.refusal:
        return verdict.refusal
    drawing = verdict.drawing
    for quarter in range(quarters):
        drawing = quarter_turned(drawing)
    return drawing_told(drawing)


def flip(cartoon):
    """The bytes of the cartoon mirrored: how many, then they."""
    verdict = examine(cartoon)
    if verdict.refusal:
        return verdict.refusal
    return drawing_told(flipped(verdict.drawing))


def scale(k, cartoon):
    """The bytes of the cartoon with all lengths k times: how many, then they."""
    if k < 1:
        return [-1]
    verdict = examine(cartoon)
    if verdict.refusal:
        return verdict.refusal
    return drawing_told(scaled(verdict.drawing, k))


def join(first, second):
    """The bytes of the second cartoon to the right of the first: how many, then they."""
    # Too many bytes are looked at ahead of the rules, of both.
    if is_too_long(first) or is_too_long(second):
        return [-6]
    left = examine(first)
    if left.refusal:
        return left.refusal
    right = examine(second)
    if right.refusal:
        return [-5, right.refusal[1] + SECOND, right.refusal[2]]
    if left.drawing.height != right.drawing.height:
        return [-2]
    return drawing_told(joined(left.drawing, right.drawing))


def turned(px, py, qx, qy, rx, ry):
    """The turn of the points p, q, r."""
    for number in (px, py, qx, qy, rx, ry):
        if abs(number) >= SIZE_END:
            return [-1]
    return [0, turn_of((px, py), (qx, qy), (rx, ry))]
