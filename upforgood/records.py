"""Records of trees, texts, programs and runs: points 221 to 223."""

from upforgood.checks import is_between, is_list
from upforgood.errors import BadEntry, BadLine, InvalidPrograms, TalkError, TooMany
from upforgood.merging import least_table
from upforgood.phrases import line_phrase, phrase, row_phrase, said_phrase, step_phrase
from upforgood.programs import Table
from upforgood.readings import Reading
from upforgood.texts import check_text
from upforgood.worlds import World, make_entry

MOST_LINES = 3000
GREATEST = 10 ** 12
GREATEST_VALUE = 10 ** 48


def record_of(tree, text, programs, run):
    check_text(tree, text)
    if not is_list(programs) or len(programs) != tree.ends or not all([_can_be_written(table) for table in programs]):
        raise InvalidPrograms(programs)
    lines = [phrase(("ends", tree.ends))] + [line_phrase(line) for line in tree.lines]
    lines.extend([step_phrase(step) for step in text])
    for at, table in enumerate(programs):
        lines.append(phrase(("program", at + 1)))
        lines.extend([row_phrase(key, deed) for key, deed in sorted(least_table(table).rows().items())])
    world = World(tree, text, programs)
    lines.append("run")
    for at, entry in enumerate(run):
        said = make_entry(world, entry)
        if said is None:
            raise BadEntry(at)
        lines.append(phrase(entry) + " : " + said_phrase(said))
    return lines + [_outcome(world)]


def read_record(lines):
    if len(lines) > MOST_LINES:
        raise TooMany(len(lines))
    reading = Reading()
    for at, line in enumerate(lines):
        if not reading.take(line):
            raise BadLine(at)
    if not reading.is_whole:
        raise BadLine(len(lines))
    return reading.record()


def untruth(lines):
    tree, text, programs, run = read_record(lines)
    world = World(tree, text, programs)
    first = len(lines) - 1 - len(run)
    for at, entry in enumerate(run):
        said = make_entry(world, entry)
        if said is None or lines[first + at] != phrase(entry) + " : " + said_phrase(said):
            return first + at
    return None if lines[-1] == _outcome(world) else len(lines) - 1


def is_true(value):
    if not is_list(value):
        return False
    try:
        return untruth(value) is None
    except TalkError:
        return False


def _outcome(world):
    if world.is_over():
        return "over"
    if world.fault() is not None:
        return phrase(("fault", world.fault()))
    return "open"


def _can_be_written(table):
    """Whether this is a table with numbers alone that a record may have; its standings are not written."""
    if not isinstance(table, Table):
        return False
    for (_, event), (_, sends, says) in table.rows().items():
        if not _is_written_event(event) or not all([_are_written(send) for send in sends]):
            return False
        if not all([_is_written_say(say) for say in says]):
            return False
    return True


def _is_written_event(event):
    if event[0] == "handed":
        return is_between(event[1], 0, GREATEST_VALUE)
    return _are_written(event[1:])


def _is_written_say(say):
    if say[0] == "decides":
        return say[1] == "end" or is_between(say[1], 0, GREATEST_VALUE)
    return say[0] == "done" or _are_written(say[1])


def _are_written(numbers):
    return all([is_between(number, 0, GREATEST) for number in numbers])
