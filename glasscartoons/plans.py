"""The calls. Each answers a list of whole numbers: a refusal, or 0 and what is told."""

from glasscartoons.rules import examine


def judge(cartoon):
    """Whether the bytes are a cartoon: nothing is told if they are."""
    verdict = examine(cartoon)
    if verdict.refusal:
        return verdict.refusal
    return [0]


def count(what, cartoon):
    """How many points (what 0), lines (1) or panes (2) there are."""
    if what > 2:
        return [-1]
    verdict = examine(cartoon)
    if verdict.refusal:
        return verdict.refusal
    drawing = verdict.drawing
    rows = (drawing.points, drawing.lines, verdict.panes)
    return [0, len(rows[what])]
