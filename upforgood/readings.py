"""A record, as it is read line by line: point 221."""

from upforgood.programs import MOST_ROWS, Table
from upforgood.texts import is_text
from upforgood.trees import FEWEST_ENDS, MOST_ENDS, Tree, joins_anew
from upforgood.words import line_in, row_in, said_in

LAST_STANDING = 400
ENTRIES = ("hand", "answer", "give")
LAST_LINES = ("over", "open", "fault early", "fault wrong", "fault never")


class Reading:
    """What was read so far. Some record begins with all lines that were taken."""

    def __init__(self):
        self.ends = 0
        self.lines = []
        self.tree = None
        self.text = ()
        self.rows = []
        self.run = []
        self.is_running = False
        self.is_whole = False

    def take(self, line):
        """Take the next line; False if no record goes on so."""
        if not isinstance(line, str) or self.is_whole:
            return False
        if self.is_running:
            return self._take_entry(line) or self._take_last(line)
        if self.tree is None:
            return self._take_line(line_in(line)) if self.ends > 0 else self._take_ends(line_in(line))
        if self.rows == []:
            return self._take_step(line_in(line)) or self._take_program(line)
        return self._take_row(row_in(line)) or self._take_program(line) or self._take_run(line)

    def record(self):
        return (self.tree, self.text, [Table(0, rows) for rows in self.rows], list(self.run))

    def _take_ends(self, told):
        if told is None or told[0] != "ends" or not FEWEST_ENDS <= told[1] <= MOST_ENDS:
            return False
        self.ends = told[1]
        return True

    def _take_line(self, told):
        if told is None or told[0] != "line" or not joins_anew(self.ends, self.lines, told[1:]):
            return False
        self.lines.append(told[1:])
        if len(self.lines) == self.ends - 1:
            self.tree = Tree(self.ends, self.lines)
        return True

    def _take_step(self, told):
        if told is None or told[0] != "step" or not is_text(self.tree, self.text + told[1:]):
            return False
        self.text = self.text + told[1:]
        return True

    def _take_program(self, line):
        end = len(self.rows) + 1
        if self.text == () or end > self.ends or line != "program " + str(end):
            return False
        self.rows.append({})
        return True

    def _take_row(self, row):
        if row is None:
            return False
        rows = self.rows[-1]
        key, deed = row
        if len(rows) == MOST_ROWS or max(key[0], deed[0]) > LAST_STANDING:
            return False
        if rows != {} and key <= list(rows)[-1]:
            return False
        rows[key] = deed
        return True

    def _take_run(self, line):
        if line != "run" or len(self.rows) < self.ends:
            return False
        self.is_running = True
        return True

    def _take_entry(self, line):
        head, mark, told = line.partition(" : ")
        entry = line_in(head)
        if mark == "" or entry is None or entry[0] not in ENTRIES or said_in(told) is None:
            return False
        self.run.append(entry)
        return True

    def _take_last(self, line):
        if line not in LAST_LINES:
            return False
        self.is_whole = True
        return True
