"""Programs that are made up for tests: tables near to right ones, and others that are not."""

from upforgood.ends import made
from upforgood.errors import TooMany
from upforgood.judging import tabled
from upforgood.keeping import papers
from upforgood.programs import Folded, Table


def right_tables(tree, text):
    """Tables that keep a text, or None if they have too many situations or rows."""
    try:
        return tabled(tree, text, made(tree, text, papers(tree, text)), 300)
    except TooMany:
        return None


def some_say(rng, ends):
    return rng.choice([("decides", 0), ("decides", 1), ("decides", "end"), ("done",), ("answers", (0,)), ("answers", (1, 0))])


def some_sends(rng, ends):
    return tuple([(rng.randint(0, ends + 1), rng.randint(-1, 4)) for _ in range(rng.randint(0, 3))])


def changed(rng, tree, table):
    """A table of which one row is changed or left out."""
    rows = table.rows()
    if not rows:
        return table
    key = rng.choice(sorted(rows, key=repr))
    standing, sends, says = rows[key]
    how = rng.randint(0, 5)
    if how == 0:
        del rows[key]
    elif how == 1:
        rows[key] = (standing, sends, says + (some_say(rng, tree.ends),))
    elif how == 2:
        rows[key] = (standing, sends, (some_say(rng, tree.ends),) + says)
    elif how == 3:
        rows[key] = (standing, some_sends(rng, tree.ends) + sends, says)
    elif how == 4:
        rows[key] = (rows[rng.choice(sorted(rows, key=repr))][0], sends, says)
    else:
        rows[key] = (standing, sends, ())
    return Table(table.first(), rows)


def near_misses(rng, tree, text):
    """Tables of which some are changed, some folded; None if there are no right ones so small."""
    tables = right_tables(tree, text)
    if tables is None:
        return None
    programs = list(tables)
    for _ in range(rng.randint(0, 3)):
        at = rng.randrange(len(programs))
        programs[at] = changed(rng, tree, programs[at])
    if rng.random() < 0.3:
        at = rng.randrange(len(programs))
        programs[at] = Folded(programs[at], [(tree.neighbours(at + 1)[0], rng.randint(0, 3))])
    return programs


def some_table(rng, tree, end):
    """Any table over a few standings."""
    rows = {}
    events = [("handed", value) for value in range(4)]
    for near in tree.neighbours(end):
        events += [("comes", near, kind) for kind in range(1, 4)]
    for standing in range(3):
        for event in events:
            if rng.random() < 0.8:
                says = tuple([some_say(rng, tree.ends)]) if rng.random() < 0.4 else ()
                rows[(standing, event)] = (rng.randint(0, 2), some_sends(rng, tree.ends), says)
    return Table(0, rows)
