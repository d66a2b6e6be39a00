"""The calls. Each answers a list of whole numbers: a refusal, or 0 and what is told."""

from glasscartoons.outlines import corners_of
from glasscartoons.plane import twice_area
from glasscartoons.rules import examine


def judge(cartoon):
    """Whether the bytes are a cartoon: nothing is told if they are."""
    verdict = examine(cartoon)
    if verdict.refusal:
        return verdict.refusal
    return [0]


def count(what, cartoon):
    """How many points (what 0), lines (1) or panes (2) there are."""
    if what > 2:
        return [-1]
    verdict = examine(cartoon)
    if verdict.refusal:
        return verdict.refusal
    drawing = verdict.drawing
    rows = (drawing.points, drawing.lines, verdict.panes)
    return [0, len(rows[what])]


def pane_refusal(i, verdict):
    """The refusal of the bytes, or else of a pane that they don't have; an empty list if there is none."""
    if verdict.refusal:
        return verdict.refusal
    if i >= len(verdict.panes):
        return [-2]
    return []


def pane(i, cartoon):
    """The row of pane i's corners: how many, then their numbers."""
    verdict = examine(cartoon)
    refusal = pane_refusal(i, verdict)
    if refusal:
        return refusal
    outline = verdict.panes[i]
    return [0, len(outline)] + outline


def area(i, cartoon):
    """Twice pane i's area."""
    verdict = examine(cartoon)
    refusal = pane_refusal(i, verdict)
    if refusal:
        return refusal
    return [0, twice_area(corners_of(verdict.drawing, verdict.panes[i]))]
