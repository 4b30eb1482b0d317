"""Which specs can tell a line's own row."""

from upforgood.keeping import kinds_for, numbers_of
from upforgood.lines import MOST_LETTERS, MOST_WIRES
from upforgood.rows import stairs
from upforgood.texts import own_row
from upforgood.wires import leasts


def specs_that_tell(tree, text, u, w):
    """The ascending list of all specs of the line between u < w that can tell its own row of a text."""
    row = own_row(tree, text, u, w)
    numbers = numbers_of(row)
    stair = stairs(numbers, MOST_LETTERS)[0]
    found = []
    for first in range(MOST_LETTERS + 1):
        for second in range(MOST_LETTERS + 1):
            spec = ("letters", first, second)
            own, other = kinds_for((u, w, spec), row)
            if stair[own] is not None and stair[own] <= other:
                found.append(spec)
    least = leasts(numbers)[0]
    if least is not None:
        found.extend([("wires", wires) for wires in range(least, MOST_WIRES + 1)])
    return found


def specs_for_all(tree, texts, u, w):
    """The ascending list of those that can tell the own rows of all texts, each of them alone."""
    found = None
    for text in texts:
        told = specs_that_tell(tree, text, u, w)
        found = told if found is None else [spec for spec in found if spec in told]
    return found
