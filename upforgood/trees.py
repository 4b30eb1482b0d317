"""Trees of ends and lines: points 51 and 52."""

from upforgood.checks import is_between, is_list
from upforgood.errors import InvalidEnd, InvalidEnds, InvalidLines, InvalidPairs, NoLine
from upforgood.lines import is_spec

FEWEST_ENDS = 2
MOST_ENDS = 5


class Tree:
    """Ends that are joined by lines, just one way between each two of them."""

    def __init__(self, ends, lines):
        if not is_between(ends, FEWEST_ENDS, MOST_ENDS):
            raise InvalidEnds(ends)
        if not _are_lines(ends, lines):
            raise InvalidLines(lines)
        self.ends = ends
        self.lines = tuple(sorted(lines))

    def __eq__(self, other):
        return isinstance(other, Tree) and self.ends == other.ends and self.lines == other.lines

    def neighbours(self, end):
        check_end(self, end)
        return _neighbours(self.lines, end)

    def spec(self, u, w):
        check_line(self, u, w)
        pair = (min(u, w), max(u, w))
        return [spec for low, high, spec in self.lines if (low, high) == pair][0]


def path(tree, u, w):
    check_end(tree, u)
    check_end(tree, w)
    return _way(tree, [u], w)


def beyond(tree, u, w):
    check_line(tree, u, w)
    return [end for end in range(1, tree.ends + 1) if w in path(tree, u, end)]


def bare_tree(ends, pairs):
    """A tree with lines between these pairs, over which nothing can be sent."""
    if not is_between(ends, FEWEST_ENDS, MOST_ENDS):
        raise InvalidEnds(ends)
    if not is_list(pairs) or not all([isinstance(pair, tuple) for pair in pairs]):
        raise InvalidPairs(pairs)
    lines = [pair + (("wires", 0),) for pair in pairs]
    if not _are_lines(ends, lines):
        raise InvalidPairs(pairs)
    return Tree(ends, lines)


def joins_anew(ends, lines, line):
    """Whether a line may be added to some lines of a tree of so many ends."""
    return _is_line(ends, line) and line[1] not in _joined(lines, line[0])


def check_end(tree, end):
    if not is_between(end, 1, tree.ends):
        raise InvalidEnd(end)


def check_line(tree, u, w):
    check_end(tree, u)
    check_end(tree, w)
    if w not in tree.neighbours(u):
        raise NoLine(u, w)


def check_neighbours(tree, u, w):
    """As check_line, but what is no end has no line either."""
    if not is_between(u, 1, tree.ends) or not is_between(w, 1, tree.ends) or w not in tree.neighbours(u):
        raise NoLine(u, w)


def _way(tree, begun, w):
    """The way from the first of the ends that begin it to w, or None if they lead astray."""
    if begun[-1] == w:
        return begun
    for end in tree.neighbours(begun[-1]):
        if end not in begun:
            way = _way(tree, begun + [end], w)
            if way is not None:
                return way
    return None


def _are_lines(ends, lines):
    """So few lines join all ends only if no two of them have the same pair."""
    if not is_list(lines) or len(lines) != ends - 1:
        return False
    if not all([_is_line(ends, line) for line in lines]):
        return False
    return _joined(lines, 1) == list(range(1, ends + 1))


def _is_line(ends, value):
    if not isinstance(value, tuple) or len(value) != 3:
        return False
    u, w, spec = value
    if not is_between(u, 1, ends) or not is_between(w, 1, ends):
        return False
    return u < w and is_spec(spec)


def _joined(lines, first):
    """The ascending list of the ends that hang together with this one."""
    met = [first]
    at = 0
    while at < len(met):
        near = _neighbours(lines, met[at])
        for end in near:
            if end not in met:
                met.append(end)
        at += 1
    return sorted(met)


def _neighbours(lines, end):
    above = [w for u, w, _ in lines if u == end]
    below = [u for u, w, _ in lines if w == end]
    return sorted(below + above)
