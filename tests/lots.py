"""Lots that are made up for tests: trees, texts, lines that are just enough, uneven papers, runs."""

from itertools import combinations

from tests.test_rows import all_sizes, many_told
from tests.test_wires import raised_by, used_by
from upforgood.rows import stairs
from upforgood.texts import own_row
from upforgood.trees import Tree
from upforgood.wires import leasts

WORDS = ["tell", "deal", "ask"]


def some_pairs(rng, ends):
    """The pairs of the lines of some tree."""
    order = list(range(1, ends + 1))
    rng.shuffle(order)
    return sorted([tuple(sorted((order[at], rng.choice(order[:at])))) for at in range(1, ends)])


def some_text(rng, ends, most_steps, top, words=WORDS):
    text = []
    many = rng.randint(1, most_steps)
    speaker = rng.randint(1, ends)
    for at in range(many):
        others = [end for end in range(1, ends + 1) if end != speaker]
        hearers = tuple(sorted(rng.sample(others, rng.randint(1, len(others)))))
        behind = rng.randint(0 if at == many - 1 else 1, ends)
        ends_it = rng.random() < 0.3
        numbers = tuple([rng.randint(1, top) for _ in hearers])
        word = rng.choice(words)
        if word == "tell":
            text.append((word, speaker, hearers, rng.randint(1, top), behind, ends_it))
        elif word == "deal":
            text.append((word, speaker, hearers, numbers, behind, ends_it))
        else:
            text.append((word, speaker, hearers, rng.randint(1, top), numbers, ends_it))
        speaker = speaker if word == "ask" else behind
    return tuple(text)


def bare_tree(ends, pairs):
    return Tree(ends, [(u, w, ("wires", 0)) for u, w in pairs])


def row_on(ends, pairs, text, u, w):
    return own_row(bare_tree(ends, pairs), text, u, w)


def least_letters(row, u):
    """All pairs of numbers of kinds that are just enough for an own row, those of u first."""
    found = []
    for own, other in enumerate(stairs([number for _, number in row], 8)[0]):
        if other is not None and (not found or other < found[-1][1]):
            found.append((own, other))
    return [pair[::-1] for pair in found] if row and row[0][0] != u else found


def least_specs(row, u):
    """All specs that are just enough for an own row; none if no spec is."""
    wires = leasts([number for _, number in row])[0]
    specs = [("letters", m, b) for m, b in least_letters(row, u)]
    return specs + ([("wires", wires)] if wires is not None and wires <= 10 else [])


def just_enough(rng, ends, pairs, text):
    """A tree whose lines are just enough for the text, or None if no lines are."""
    lines = []
    for u, w in pairs:
        specs = least_specs(row_on(ends, pairs, text, u, w), u)
        if not specs:
            return None
        wires = [spec for spec in specs if spec[0] == "wires"]
        letters = [spec for spec in specs if spec[0] == "letters"]
        lines.append((u, w, rng.choice(rng.choice([some for some in (wires, letters) if some]))))
    return Tree(ends, lines)


def with_more(rng, tree):
    """A tree with some more kinds and wires."""
    lines = []
    for u, w, spec in tree.lines:
        most = 10 if spec[0] == "wires" else 8
        lines.append((u, w, spec[:1] + tuple([min(most, number + rng.randint(0, 2)) for number in spec[1:]])))
    return Tree(tree.ends, lines)


def fewer(spec):
    """All specs with one kind or one wire fewer."""
    found = []
    for at in range(1, len(spec)):
        if spec[at] > 0:
            found.append(spec[:at] + (spec[at] - 1,) + spec[at + 1:])
    return found


def some_plan(rng, numbers, spec, own, other):
    """Any plan that fits, with uneven rounds and more answers than are needed, too."""
    rounds = []
    on_wires = spec[0] == "wires"
    least = leasts(numbers) if on_wires else stairs(numbers, 8)
    for at, number in enumerate(numbers):
        choices = []
        for sizes in all_sizes(own):
            if on_wires:
                left = own - used_by(sizes)
                if raised_by(sizes, own) >= number and least[at + 1] <= left:
                    choices.append((sizes, left, left))
            elif len(sizes) <= other + 1 and many_told(own, sizes) >= number:
                next_own, next_other = other - len(sizes) + 1, own - sum(sizes)
                need = least[at + 1][next_own]
                if need is not None and need <= next_other:
                    choices.append((sizes, next_own, next_other))
        sizes, own, other = rng.choice(choices)
        rounds.append(sizes)
    return tuple(rounds)


def some_paper(rng, tree, text):
    paper = []
    for u, w, spec in tree.lines:
        row = own_row(tree, text, u, w)
        own, other = (spec[1], spec[-1]) if not row or row[0][0] == u else (spec[-1], spec[1])
        paper.append(some_plan(rng, [number for _, number in row], spec, own, other))
    return paper


def all_pairs(ends):
    """The pairs of the lines of every tree of so many ends."""
    found = []
    for pairs in combinations(combinations(range(1, ends + 1), 2), ends - 1):
        met = {1}
        for _ in pairs:
            for u, w in pairs:
                if u in met or w in met:
                    met |= {u, w}
        if len(met) == ends:
            found.append(list(pairs))
    return found
