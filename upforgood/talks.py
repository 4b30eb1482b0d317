"""A line as one of its two ends knows it, while they tell each other numbers.

A number is told by rounds of sizes that both ends know: behind each round but
the last one the hearer sends the least kind that it can, as an answer. The
rounds of a number are those of this index among all of their sizes.
"""

from upforgood.ranks import ON_LETTERS, ON_WIRES, behind, rank_at, rounds_at


class Talk:
    """One end's view of a line. Its state is a tuple of integers and tuples:

    told, how many numbers are told whole; mine and theirs, the kinds that this
    end and the other one could send when the number in hand began; rounds, of
    that number, all those that this end tells, or what has come of them; and
    gone, how many of them this end has sent.
    """

    def __init__(self, spec, state):
        self.gap = ON_WIRES if spec[0] == "wires" else ON_LETTERS
        self.told, self.mine, self.theirs, self.rounds, self.gone = state

    def state(self):
        return (self.told, self.mine, self.theirs, self.rounds, self.gone)

    def is_telling(self):
        return self.gone > 0

    def tell(self, sizes, value):
        """Begin a number; the kinds that are returned are to be sent."""
        self.rounds = rounds_at(value, self.mine, sizes, self.gap)
        return self._next_round()

    def answered(self, kind):
        """The kinds to be sent behind an answer that came; none behind any other kind."""
        if kind != self._answers(self.theirs, self.rounds[:self.gone])[-1]:
            return ()
        return self._next_round()

    def hear(self, sizes, kind):
        """Take a kind that came; the kinds that are returned are to be sent."""
        if kind not in self._awaited(sizes):
            return ()
        self._take(sizes, kind)
        last = len(self.rounds) - 1
        if len(self.rounds[last]) < sizes[last] or len(self.rounds) == len(sizes):
            return ()
        return (self._answers(self.mine, self.rounds)[-1],)

    def heard(self, sizes):
        """The number that has come, if all of it has; else None."""
        if [len(chosen) for chosen in self.rounds] != list(sizes):
            return None
        value = rank_at(self.rounds, self.theirs, self.gap)
        self._close(self.theirs, self.mine, False)
        return value

    def _next_round(self):
        chosen = self.rounds[self.gone]
        self.gone += 1
        if self.gone == len(self.rounds):
            self._close(self.mine, self.theirs, True)
        return chosen

    def _take(self, sizes, kind):
        last = len(self.rounds) - 1
        if last >= 0 and len(self.rounds[last]) < sizes[last]:
            self.rounds = self.rounds[:last] + (tuple(sorted(self.rounds[last] + (kind,))),)
        else:
            self.rounds = self.rounds + ((kind,),)

    def _awaited(self, sizes):
        """The kinds that may still come; on wires those raised as answers may not."""
        left = list(self.theirs)
        for chosen, size in zip(self.rounds, sizes):
            left = behind(left, chosen, self.gap if len(chosen) == size else 0)
        return left

    def _answers(self, kinds, rounds):
        """The answers behind some rounds, by an end that could send these kinds at first."""
        if self.gap == ON_LETTERS:
            return list(kinds[:len(rounds)])
        answers = []
        left = list(kinds)
        for chosen in rounds:
            left = behind(left, chosen, 0)
            answers.append(left[0])
            left = left[1:]
        return answers

    def _close(self, tellers, hearers, is_mine):
        """The number is told: what was sent for it is not there for the next one."""
        answers = self._answers(hearers, self.rounds[:-1])
        tellers = tuple(behind(tellers, _all_of(self.rounds), 0))
        hearers = tuple(behind(hearers, answers, 0))
        if self.gap == ON_WIRES:
            tellers = hearers = tuple(behind(tellers, answers, 0))
        self.mine, self.theirs = (tellers, hearers) if is_mine else (hearers, tellers)
        self.told += 1
        self.rounds = ()
        self.gone = 0


def new_state(spec, is_lesser):
    """The state of the view that the lesser end of a line, or the greater one, has at first."""
    own, other = (spec[1], spec[-1]) if is_lesser else (spec[-1], spec[1])
    return (0, tuple(range(1, own + 1)), tuple(range(1, other + 1)), (), 0)


def _all_of(rounds):
    kinds = []
    for chosen in rounds:
        kinds.extend(chosen)
    return kinds
