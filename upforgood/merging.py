"""Tables that do the same: points 201 to 203."""

from upforgood.checks import is_list
from upforgood.errors import InvalidPrograms
from upforgood.programs import Table

MOST_TABLES = 5


def least_table(table):
    graph = Graph([table])
    classes = graph.levels(graph.starts[0], graph.starts[0])[-1]
    met = [graph.starts[0]]
    numbers = {classes[met[0]]: 0}
    least = {}
    at = 0
    while at < len(met):
        node = met[at]
        for event in graph.rows[node]:
            target, sends, says = graph.step(node, event)
            if classes[target] not in numbers:
                numbers[classes[target]] = len(met)
                met.append(target)
            number = numbers[classes[target]]
            if number != at or (sends, says) != ((), ()):
                least[(at, event)] = (number, sends, says)
        at += 1
    return Table(0, least)


def parting(one, other):
    graph = Graph([one, other])
    left, right = graph.starts
    levels = graph.levels(left, right)
    if levels[-1][left] == levels[-1][right]:
        return None
    events = []
    for classes in levels[-2::-1]:
        event = graph.parted_by(left, right, classes)
        events.append(event)
        left = graph.step(left, event)[0]
        right = graph.step(right, event)[0]
    return events


def least_tables(programs):
    if not is_list(programs) or len(programs) > MOST_TABLES:
        raise InvalidPrograms(programs)
    if not all([isinstance(program, Table) for program in programs]):
        raise InvalidPrograms(programs)
    return [least_table(program) for program in programs]


class Graph:
    """The standings of tables that some events reach, by numbers of their own.

    rows has for each of them its events, ascending, with what they make of it; marks has
    the same with numbers for what is sent and said, 0 for nothing.
    """

    def __init__(self, tables):
        self.rows = []
        self.starts = [self._add_table(table) for table in tables]
        self.deeds = {}
        self.marks = [self._marks_of(node) for node in range(len(self.rows))]

    def step(self, node, event):
        return self.rows[node].get(event, (node, (), ()))

    def levels(self, one, other):
        """For each length, from 0 on, the classes of standings that no list of so many events parts.

        It ends with the first length that parts these two, or behind which nothing more is parted.
        """
        levels = [[0] * len(self.rows)]
        many = 0
        while many < len(set(levels[-1])) and levels[-1][one] == levels[-1][other]:
            many = len(set(levels[-1]))
            levels.append(self._parted_further(levels[-1]))
        return levels

    def parted_by(self, one, other, classes):
        """The least event that parts two standings, or behind which these classes do."""
        for event in sorted(set(list(self.rows[one]) + list(self.rows[other]))):
            left, right = self.step(one, event), self.step(other, event)
            if left[1:] != right[1:] or classes[left[0]] != classes[right[0]]:
                return event
        return None

    def _parted_further(self, classes):
        numbers = {}
        found = []
        for node, marks in enumerate(self.marks):
            told = [(mark, classes[target]) for mark, target in marks]
            # A row that changes nothing is the same as none.
            told = [(mark, target) for mark, target in told if mark[1] != 0 or target != classes[node]]
            found.append(numbers.setdefault((classes[node], tuple(told)), len(numbers)))
        return found

    def _marks_of(self, node):
        """For each event of a standing a tuple that tells what comes of it but for the target, and the target."""
        marks = []
        for event, (target, sends, says) in self.rows[node].items():
            number = 0
            if (sends, says) != ((), ()):
                number = self.deeds.setdefault((sends, says), len(self.deeds) + 1)
            marks.append(((event, number), target))
        return marks

    def _add_table(self, table):
        """Take in the standings of a table, and tell the number of its first one."""
        by_standing = _rows_by_standings(table)
        start = len(self.rows)
        met = [table.first()]
        numbers = {table.first(): start}
        at = 0
        while at < len(met):
            found = {}
            rows = by_standing.get(met[at], [])
            for event, (behind, sends, says) in rows:
                if behind not in numbers:
                    numbers[behind] = start + len(met)
                    met.append(behind)
                found[event] = (numbers[behind], sends, says)
            self.rows.append(found)
            at += 1
        return start


def _rows_by_standings(table):
    """The tuples (event, deed) of each standing, ascending by events, of which no two are equal."""
    found = {}
    for (standing, event), deed in table.rows().items():
        found.setdefault(standing, []).append((event, deed))
    return {standing: sorted(found[standing]) for standing in found}
