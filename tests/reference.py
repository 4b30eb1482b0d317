"""Runs word by word by point 6, written apart from the package, and a search of all of them."""

from itertools import product


def values_of(step):
    many = 1
    for number in step[3] if step[0] == "deal" else [step[3]]:
        many *= number
    return many


def due_of(step, value):
    if value == values_of(step):
        return {hearer: "end" for hearer in step[2]}
    if step[0] == "deal":
        return dict(zip(step[2], list(product(*[range(number) for number in step[3]]))[value]))
    return {hearer: value for hearer in step[2]}


class Run:
    def __init__(self, tree, text, programs):
        self.tree, self.text, self.programs = tree, text, programs
        self.standings = {end: programs[end - 1].first() for end in range(1, tree.ends + 1)}
        self.kinds = {}
        self.wires = {}
        for u, w, spec in tree.lines:
            self.kinds[u, w], self.kinds[w, u] = spec[1], spec[-1]
            self.wires[u, w] = self.wires[w, u] = spec[0] == "wires"
        self.sent = {pair: set() for pair in self.kinds}
        self.came = {pair: set() for pair in self.kinds}
        self.handed = []
        self.answers = []
        self.finished = []
        self.said = {end: [] for end in self.standings}
        self.decided = {end: [] for end in self.standings}
        self.fault = None

    def copy(self):
        run = Run(self.tree, self.text, self.programs)
        run.standings = dict(self.standings)
        run.sent = {pair: set(kinds) for pair, kinds in self.sent.items()}
        run.came = {pair: set(kinds) for pair, kinds in self.came.items()}
        run.handed = list(self.handed)
        run.answers = [dict(answers) for answers in self.answers]
        run.finished = list(self.finished)
        run.said = {end: list(said) for end, said in self.said.items()}
        run.decided = {end: list(decided) for end, decided in self.decided.items()}
        run.fault = self.fault
        return run

    def key(self):
        return repr([
            self.standings, sorted((pair, sorted(kinds)) for pair, kinds in self.sent.items()),
            sorted((pair, sorted(kinds)) for pair, kinds in self.came.items()), self.handed,
            [sorted(answers.items()) for answers in self.answers], self.said,
        ])

    def now(self):
        return len(self.handed) - 1

    def ended(self):
        return bool(self.handed) and self.handed[-1] == values_of(self.text[self.now()])

    def dues(self):
        return due_of(self.text[self.now()], self.handed[-1]) if self.handed else {}

    def all_decided(self):
        return all((self.now(), due) in self.decided[hearer] for hearer, due in self.dues().items())

    def over(self):
        if self.fault or not self.handed:
            return False
        last = self.now() == len(self.text) - 1
        if last and self.now() in self.finished:
            return True
        nobody = last and self.text[-1][0] != "ask" and self.text[-1][4] == 0
        return (nobody or self.ended()) and self.all_decided()

    def turn(self):
        if self.fault or len(self.handed) == len(self.text):
            return None
        return len(self.handed) if not self.handed or self.now() in self.finished else None

    def asked(self):
        if self.fault or not self.handed or self.ended() or self.text[self.now()][0] != "ask":
            return []
        return [end for end, due in self.dues().items() if (self.now(), due) in self.decided[end] and end not in self.answers[-1]]

    def fresh(self, u, w, kind):
        return kind not in self.came[u, w] and not (self.wires[u, w] and kind in self.sent[w, u])

    def under_way(self):
        return sorted((u, w, kind) for u, w in self.sent for kind in self.sent[u, w] if self.fresh(u, w, kind))

    def entries(self):
        """All entries that bring something new."""
        found = []
        if self.turn() is not None:
            step = self.text[self.turn()]
            found += [("hand", value) for value in range(values_of(step) + (1 if step[5] else 0))]
        for end in self.asked():
            step = self.text[self.now()]
            found += [("answer", end, number) for number in range(step[4][step[2].index(end)])]
        return found + [("give",) + given for given in self.under_way()]

    def enter(self, entry):
        if entry[0] == "hand":
            self.handed.append(entry[1])
            self.answers.append({})
            return self.event(self.text[self.now()][1], ("handed", entry[1]))
        if entry[0] == "answer":
            self.answers[-1][entry[1]] = entry[2]
            return self.event(entry[1], ("handed", entry[2]))
        _, u, w, kind = entry
        if not self.fresh(u, w, kind):
            return []
        self.came[u, w].add(kind)
        return self.event(w, ("comes", u, kind))

    def event(self, end, event):
        self.standings[end], sends, says = self.programs[end - 1].step(self.standings[end], event)
        for near, kind in sends:
            if (end, near) in self.sent and 1 <= kind <= self.kinds[end, near]:
                if not (self.wires[end, near] and kind in self.came[near, end]):
                    self.sent[end, near].add(kind)
        told = []
        for say in says:
            told.append((end, say))
            self.fault = self.judge(end, say)
            if self.fault:
                return told
            self.said[end].append(say)
        if not self.over() and self.turn() is None and not self.asked() and not self.under_way():
            self.fault = "never"
        return told

    def judge(self, end, say):
        if not self.handed:
            return "early"
        step = self.text[self.now()]
        if say[0] == "decides":
            if end not in self.dues() or self.now() in [at for at, _ in self.decided[end]]:
                return "early"
            if say[1] != self.dues()[end]:
                return "wrong"
            self.decided[end].append((self.now(), say[1]))
            return None
        if self.ended() or not self.all_decided() or self.now() in self.finished:
            return "early"
        if say[0] == "done":
            if step[0] == "ask" or step[4] != end:
                return "early"
        else:
            if step[0] != "ask" or step[1] != end or len(self.answers[-1]) < len(step[2]):
                return "early"
            if say[1] != tuple(self.answers[-1][hearer] for hearer in step[2]):
                return "wrong"
        self.finished.append(self.now())
        return None


def search(tree, text, programs, most):
    """The number of all situations, the length of a shortest failing list or None, and rows by ends.

    The number is None if there are more than so many.
    """
    start = Run(tree, text, programs)
    met = {start.key()}
    layer = [start]
    shortest = None
    length = 0
    rows = {end: set() for end in start.standings}
    while layer:
        length += 1
        behind = []
        for run in layer:
            for entry in run.entries():
                end = entry[2] if entry[0] == "give" else entry[1] if entry[0] == "answer" else text[run.turn()][1]
                event = ("comes", entry[1], entry[3]) if entry[0] == "give" else ("handed", entry[-1])
                rows[end].add((run.standings[end], event))
                copy = run.copy()
                copy.enter(entry)
                if copy.fault:
                    shortest = shortest or length
                elif copy.key() not in met:
                    met.add(copy.key())
                    behind.append(copy)
                    if len(met) > most:
                        return None, None, None
        layer = behind
    return len(met), shortest, rows
