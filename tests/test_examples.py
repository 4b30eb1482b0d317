"""The examples of the document's interface."""

from tests.helper import Case


class Examples(Case):
    def test_errors(self):
        self.play("""
>>> from upforgood.errors import NoLine, NothingToUndo, TalkError
>>> [NoLine(1, w=3).u, NoLine(1, w=3).w, isinstance(NothingToUndo(), TalkError)]
[1, 3, True]
""")

    def test_numbers(self):
        self.play("""
>>> from upforgood.numbers import arrangements, choose, even_parts, factorial, most_arranged
>>> [factorial(0), factorial(5), choose(5, 2), choose(2, 3), arrangements([2, 1, 1]), arrangements([])]
[1, 120, 10, 0, 12, 1]
>>> [even_parts(7, 3), even_parts(2, 4), even_parts(0, 1)]
[(3, 2, 2), (1, 1, 0, 0), (0,)]
>>> [most_arranged(4, 2, 1), most_arranged(4, 1, 2), most_arranged(4, 3, 2), most_arranged(3, 3, 0)]
[12, 6, 0, 6]
>>> choose(-1, 2)
raises InvalidNumber(-1)
""")

    def test_ranks(self):
        self.play("""
>>> from upforgood.ranks import answers_of, many_raised, many_rounds, raised_of, raised_rank, rank_of, rounds_of
>>> [many_rounds(4, [1, 2]), many_rounds(3, [2, 2]), many_rounds(5, [])]
[12, 0, 1]
>>> [rounds_of(0, [2, 5, 7], [1, 1]), rounds_of(3, [2, 5, 7], [1, 1]), rank_of(((7,), (5,)), [2, 5, 7])]
[((2,), (5,)), ((5,), (7,)), 5]
>>> [many_raised(4, [1, 1]), raised_of(0, [1, 2, 3, 4], [1, 1]), raised_of(7, [1, 2, 3, 4], [1, 1])]
[8, ((1,), (3,)), ((4,), (3,))]
>>> [answers_of(((1,), (3,)), [1, 2, 3, 4]), answers_of(((4,), (3,)), [1, 2, 3, 4]), answers_of(((2,), (3,)), [1, 2, 3, 4])]
[(2,), (1,), (1,)]
>>> [raised_rank(((2,), (3,)), [1, 2, 3, 4]), raised_rank(((2,), (4,)), [1, 2, 3, 4])]
[2, 3]
>>> rounds_of(6, [2, 5, 7], [1, 1])
raises InvalidRank(6)
""")

    def test_lines(self):
        self.play("""
>>> from upforgood.lines import Line, is_spec
>>> [is_spec(("letters", 3, 0)), is_spec(("wires", 11)), is_spec(["wires", 2])]
[True, False, False]
>>> line = Line(("letters", 3, 1))
>>> [line.send(0, 2), line.send(0, 2), line.under_way(1), line.come(1, 2), line.come(1, 2), line.under_way(1)]
[True, False, [2], True, False, []]
>>> [line.unsent(0), line.left(), line.sent(0), line.come_to(1)]
[[1, 3], (2, 1), [2], [2]]
>>> wires = Line(("wires", 3))
>>> [wires.send(0, 1), wires.send(1, 1), wires.under_way(1), wires.come(1, 1), wires.send(1, 2), wires.under_way(0), wires.left()]
[True, True, [], False, True, [2], (1,)]
>>> [line.spec, line.kinds(1), line.copy().left(), wires.unsent(0), wires.unsent(1)]
[('letters', 3, 1), 1, (2, 1), [2, 3], [3]]
>>> line.come(1, 3)
raises NotSent(3)
""")
