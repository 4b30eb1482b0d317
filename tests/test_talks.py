"""How one number is told over a line: what points 31, 32 and 102 ask of both its ends."""

import unittest

from tests.helper import Case
from tests.test_rows import all_sizes
from upforgood.ranks import many_raised, many_rounds
from upforgood.talks import Talk, new_state

LETTERS = ("letters", 0, 0)
WIRES = ("wires", 0)


class Talks(Case):
    def tell(self, spec, sizes, value, teller, hearer, rng_order=1):
        """Tell a number; the kinds of a round come in order, or in the other order."""
        sent = list(teller.tell(sizes, value))
        heard = None
        counts = [len(sent), 0]
        while sent:
            answers = []
            for kind in sent[::rng_order]:
                self.assertIsNone(heard)
                answers.extend(hearer.hear(sizes, kind))
                heard = hearer.heard(sizes)
            counts[1] += len(answers)
            sent = []
            for kind in answers:
                for other in range(1, 12):
                    if other != kind:
                        self.same(teller.answered(other), ())
                sent.extend(teller.answered(kind))
            counts[0] += len(sent)
        self.same(heard, value)
        self.same(counts, [sum(sizes), len(sizes) - 1])

    def views(self, spec, own, other):
        spec = spec if spec == WIRES else ("letters", own, other)
        spec = ("wires", own) if spec == WIRES else spec
        return Talk(spec, new_state(spec, True)), Talk(spec, new_state(spec, False))

    def test_all_sizes_and_values_on_letters(self):
        for sizes in all_sizes(4):
            for value in range(many_rounds(5, sizes)):
                teller, hearer = self.views(LETTERS, 5, 4)
                self.tell(LETTERS, sizes, value, teller, hearer, 1 if value % 2 else -1)
                self.agree(teller, hearer)
                self.same([len(teller.mine), len(teller.theirs)], [5 - sum(sizes), 4 - len(sizes) + 1])

    def test_all_sizes_and_values_on_wires(self):
        for sizes in all_sizes(4):
            for value in range(many_raised(7, sizes)):
                teller, hearer = self.views(WIRES, 7, 7)
                self.tell(WIRES, sizes, value, teller, hearer, 1 if value % 2 else -1)
                self.agree(teller, hearer)
                self.same([len(teller.mine), teller.mine], [7 - sum(sizes) - len(sizes) + 1, teller.theirs])

    def agree(self, teller, hearer):
        self.same([teller.mine, teller.theirs], [hearer.theirs, hearer.mine])
        self.same([teller.told, hearer.told, teller.rounds, hearer.rounds, teller.gone, hearer.gone], [1, 1, (), (), 0, 0])

    def test_one_number_behind_the_other(self):
        for spec, own, other in [(LETTERS, 8, 8), (WIRES, 10, 10)]:
            for values in [(0, 0, 0), (3, 1, 0), (1, 2, 2), (5, 0, 1)]:
                one, two = self.views(spec, own, other)
                self.tell(spec, (1, 1), values[0], one, two)
                self.tell(spec, (2,), values[1], two, one)
                self.tell(spec, (1,), values[2], one, two)
                self.same([one.told, one.mine, one.theirs], [3, two.theirs, two.mine])

    def test_what_is_not_awaited(self):
        for spec in [LETTERS, WIRES]:
            _, hearer = self.views(spec, 4, 4)
            for kind in [0, 5, -1, 10 ** 20]:
                self.same([hearer.hear((2, 1), kind), hearer.rounds], [(), ()])
            self.same([hearer.hear((2, 1), 3), hearer.hear((2, 1), 3), hearer.rounds], [(), (), ((3,),)])
            self.same(hearer.hear((2, 1), 1), ((1,) if spec == LETTERS else (2,)))
            for kind in [1, 3] + ([2] if spec == WIRES else []):
                self.same([hearer.hear((2, 1), kind), hearer.rounds], [(), ((1, 3),)])
            self.same([hearer.hear((2, 1), 4), hearer.rounds], [(), ((1, 3), (4,))])

    def test_the_state_is_whole(self):
        for spec in [LETTERS, WIRES]:
            teller, hearer = self.views(spec, 4, 4)
            teller.tell((1, 2), 5)
            other = Talk(spec, teller.state())
            self.same(other.state(), teller.state())
            self.same([other.is_telling(), hearer.is_telling()], [True, False])
            self.same(other.answered(1 if 1 not in teller.rounds[0] else 2 if spec == WIRES else 1), teller.rounds[1])


if __name__ == "__main__":
    unittest.main()
