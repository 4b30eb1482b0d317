"""The examples of the document's interface."""

from tests.helper import Case


class Examples(Case):
    def test_errors(self):
        self.play("""
>>> from upforgood.errors import NoLine, NothingToUndo, TalkError
>>> [NoLine(1, w=3).u, NoLine(1, w=3).w, isinstance(NothingToUndo(), TalkError)]
[1, 3, True]
""")

    def test_numbers(self):
        self.play("""
>>> from upforgood.numbers import arrangements, choose, even_parts, factorial, most_arranged
>>> [factorial(0), factorial(5), choose(5, 2), choose(2, 3), arrangements([2, 1, 1]), arrangements([])]
[1, 120, 10, 0, 12, 1]
>>> [even_parts(7, 3), even_parts(2, 4), even_parts(0, 1)]
[(3, 2, 2), (1, 1, 0, 0), (0,)]
>>> [most_arranged(4, 2, 1), most_arranged(4, 1, 2), most_arranged(4, 3, 2), most_arranged(3, 3, 0)]
[12, 6, 0, 6]
>>> choose(-1, 2)
raises InvalidNumber(-1)
""")

    def test_ranks(self):
        self.play("""
>>> from upforgood.ranks import answers_of, many_raised, many_rounds, raised_of, raised_rank, rank_of, rounds_of
>>> [many_rounds(4, [1, 2]), many_rounds(3, [2, 2]), many_rounds(5, [])]
[12, 0, 1]
>>> [rounds_of(0, [2, 5, 7], [1, 1]), rounds_of(3, [2, 5, 7], [1, 1]), rank_of(((7,), (5,)), [2, 5, 7])]
[((2,), (5,)), ((5,), (7,)), 5]
>>> [many_raised(4, [1, 1]), raised_of(0, [1, 2, 3, 4], [1, 1]), raised_of(7, [1, 2, 3, 4], [1, 1])]
[8, ((1,), (3,)), ((4,), (3,))]
>>> [answers_of(((1,), (3,)), [1, 2, 3, 4]), answers_of(((4,), (3,)), [1, 2, 3, 4]), answers_of(((2,), (3,)), [1, 2, 3, 4])]
[(2,), (1,), (1,)]
>>> [raised_rank(((2,), (3,)), [1, 2, 3, 4]), raised_rank(((2,), (4,)), [1, 2, 3, 4])]
[2, 3]
>>> rounds_of(6, [2, 5, 7], [1, 1])
raises InvalidRank(6)
""")

    def test_lines(self):
        self.play("""
>>> from upforgood.lines import Line, is_spec
>>> [is_spec(("letters", 3, 0)), is_spec(("wires", 11)), is_spec(["wires", 2])]
[True, False, False]
>>> line = Line(("letters", 3, 1))
>>> [line.send(0, 2), line.send(0, 2), line.under_way(1), line.come(1, 2), line.come(1, 2), line.under_way(1)]
[True, False, [2], True, False, []]
>>> [line.unsent(0), line.left(), line.sent(0), line.come_to(1)]
[[1, 3], (2, 1), [2], [2]]
>>> wires = Line(("wires", 3))
>>> [wires.send(0, 1), wires.send(1, 1), wires.under_way(1), wires.come(1, 1), wires.send(1, 2), wires.under_way(0), wires.left()]
[True, True, [], False, True, [2], (1,)]
>>> [line.spec, line.kinds(1), line.copy().left(), wires.unsent(0), wires.unsent(1)]
[('letters', 3, 1), 1, (2, 1), [2, 3], [3]]
>>> line.come(1, 3)
raises NotSent(3)
""")

    def test_trees_and_texts(self):
        self.play("""
>>> from upforgood.trees import Tree, beyond, path
>>> from upforgood.texts import due_of, is_text, own_row, values_of
>>> tree = Tree(4, [(1, 2, ("letters", 4, 4)), (2, 3, ("wires", 6)), (2, 4, ("letters", 1, 1))])
>>> [path(tree, 3, 1), beyond(tree, 2, 3), beyond(tree, 2, 1), tree.neighbours(2), tree.spec(3, 2)]
[[3, 2, 1], [3], [1], [1, 3, 4], ('wires', 6)]
>>> [tree == Tree(4, tree.lines[::-1]), tree == Tree(2, [(1, 2, ("letters", 4, 4))]), tree.lines[2], path(tree, 4, 4)]
[True, False, (2, 4, ('letters', 1, 1)), [4]]
>>> text = (("ask", 1, (2, 3), 2, (3, 2), False), ("tell", 1, (2, 3), 4, 3, True), ("deal", 3, (1, 2), (2, 5), 0, False))
>>> [is_text(tree, text), is_text(tree, text[1:]), is_text(tree, ()), [values_of(step) for step in text]]
[True, True, False, [2, 4, 10]]
>>> [due_of(text[1], 4), due_of(text[2], 7), due_of(text[0], 1)]
[[(2, 'end'), (3, 'end')], [(1, 1), (2, 2)], [(2, 1), (3, 1)]]
>>> [own_row(tree, text, 1, 2), own_row(tree, text, 3, 2), own_row(tree, text, 2, 4)]
[[(1, 2), (2, 6), (1, 5), (2, 2)], [(2, 2), (3, 2), (2, 5), (3, 10)], []]
>>> due_of(text[0], 2)
raises InvalidValue(2)
>>> beyond(tree, 1, 3)
raises NoLine(1, 3)
""")

    def test_programs(self):
        self.play("""
>>> from upforgood.programs import Folded, Table
>>> table = Table("wait", {("wait", ("handed", 0)): ("told", ((2, 1), (2, 4)), ()), ("told", ("comes", 2, 1)): ("over", (), (("done",),))})
>>> [table.first(), table.step("wait", ("handed", 0)), table.step("wait", ("handed", 1))]
['wait', ('told', ((2, 1), (2, 4)), ()), ('wait', (), ())]
>>> [Folded(table, [(2, 3)]).step("wait", ("handed", 0)), Folded(table, [(2, 0)]).step("wait", ("handed", 0)), Folded(table, [(2, 2)]).first()]
[('told', ((2, 1),), ()), ('told', (), ()), 'wait']
>>> [table == Table("wait", table.rows()), table == Table("told", table.rows()), len(table.rows()), Table((0, ("a", ())), {}).first()]
[True, False, 2, (0, ('a', ()))]
>>> Table("wait", {"wait": 1})
raises InvalidRows({'wait': 1})
""")

    def test_rows(self):
        self.play("""
>>> from upforgood.rows import can_tell, fits, left_by, plan, stairs, stairs_hold
>>> [can_tell([6, 2], 3, 2), can_tell([2, 6], 2, 3), can_tell([3, 2, 2], 3, 2), can_tell([3, 1, 2], 3, 1), can_tell([2, 1, 3], 3, 1)]
[False, True, True, True, False]
>>> [fits([3, 1, 2], 3, 1, ((1,), (1,), (1,))), fits([3, 1, 2], 3, 1, ((2,), (1,), (1,))), fits([6], 3, 1, ((1, 1),)), fits([6], 3, 0, ((1, 1),))]
[True, False, True, False]
>>> [plan([1, 1], 1, 1), plan([5], 3, 0), plan([], 0, 0)]
[((1,), (1,)), None, ()]
>>> [left_by(((1,), (1,), (1,)), 3, 1), left_by(((1, 1),), 3, 1), left_by((), 2, 5)]
[(1, 0), (1, 0), (2, 5)]
>>> stairs([2, 2], 3)
[[None, None, 2, 2], [None, None, 0, 0], [0, 0, 0, 0]]
>>> [stairs_hold([2], 1, ((None, None), [0, 0])), stairs_hold([2], 1, [[None, 0], [0, 0]])]
[True, False]
>>> can_tell([0], 3, 1)
raises InvalidRow([0])
""")

    def test_wires(self):
        self.play("""
>>> from upforgood.wires import can_raise, leasts, most_raised, raise_fits, raise_plan
>>> [most_raised(wires) for wires in range(9)]
[0, 1, 2, 3, 8, 20, 48, 168, 560]
>>> [can_raise([3, 2, 1], 3), can_raise([3, 3], 3), can_raise([], 0), can_raise([8], 4), can_raise([9], 4)]
[True, False, True, True, False]
>>> [raise_fits([8], 4, ((1, 1),)), raise_fits([6, 1], 4, ((2,), (1,))), raise_fits([8, 1], 4, ((1, 1), (1,))), raise_fits([8, 1], 4, ((1, 1), ()))]
[True, True, True, False]
>>> [raise_plan([2, 1], 2), raise_plan([9], 4), raise_plan([], 0)]
[((1,), (1,)), None, ()]
>>> [leasts([2, 6, 5]), leasts([2, 2, 5]), leasts([])]
[[7, 6, 4, 0], [6, 5, 4, 0], [0]]
>>> most_raised(25)
raises InvalidWires(25)
""")

    def test_keeping(self):
        self.play("""
>>> from upforgood.trees import Tree
>>> from upforgood.keeping import barred, can_keep, is_paper, papers, uses
>>> text = (("ask", 1, (2, 3), 2, (3, 2), False), ("tell", 1, (2, 3), 4, 3, True))
>>> tree = Tree(3, [(1, 2, ("wires", 7)), (2, 3, ("letters", 4, 3))])
>>> [can_keep(tree, text), barred(tree, text), barred(Tree(3, [(1, 2, ("wires", 6)), (2, 3, ("letters", 1, 8))]), text)]
[True, [], [(1, 2), (2, 3)]]
>>> paper = [((1,), (1,), (1,)), ((1,), (1,), (1, 1))]
>>> [is_paper(tree, text, paper), is_paper(tree, text, [((1,), (1,), (1,)), ((1,), (1,), (2,))])]
[True, False]
>>> [is_paper(tree, text, papers(tree, text)), papers(Tree(3, [(1, 2, ("wires", 6)), (2, 3, ("letters", 4, 3))]), text)]
[True, None]
>>> [uses(tree, text, paper, 0), uses(tree, text, paper, 1)]
[[(1, 1), (1, 1)], [(1, 0), (2, 1)]]
>>> uses(tree, text, paper, 2)
raises InvalidAt(2)
""")

    def test_ends(self):
        self.play("""
>>> from upforgood.ends import made
>>> from upforgood.keeping import papers
>>> from upforgood.trees import Tree
>>> from upforgood.worlds import World
>>> tree = Tree(3, [(1, 2, ("letters", 3, 2)), (2, 3, ("wires", 5))])
>>> text = (("tell", 1, (2, 3), 3, 3, False), ("tell", 3, (1,), 2, 0, False))
>>> world = World(tree, text, made(tree, text, papers(tree, text)))
>>> [world.hand(2), len(world.calm()) > 0, world.fault(), world.decided(2), world.decided(3), world.turn(), world.done()]
[[], True, None, [(0, 2)], [(0, 2)], 1, 1]
>>> [world.hand(1), len(world.calm()) > 0, world.is_over(), world.decided(1), world.fault()]
[[], True, True, [(1, 1)], None]
""")

    def test_ends_again(self):
        self.play("""
>>> from upforgood.ends import made
>>> from upforgood.keeping import papers
>>> from upforgood.trees import Tree
>>> from upforgood.worlds import World
>>> tree = Tree(3, [(1, 2, ("letters", 2, 2)), (1, 3, ("wires", 4))])
>>> text = (("ask", 1, (2, 3), 1, (2, 3), True),)
>>> paper = papers(tree, text)
>>> world = World(tree, text, made(tree, text, paper))
>>> [world.hand(0), len(world.calm()) > 0, world.asked(), world.answer(3, 2), len(world.calm()) > 0, world.asked(), world.done()]
[[], True, [2, 3], [], True, [2], 0]
>>> [world.answer(2, 1), len(world.calm()) > 0, world.done(), world.is_over(), world.fault()]
[[], True, 1, True, None]
>>> world = World(tree, text, made(tree, text, paper))
>>> [world.hand(1), len(world.calm()) > 0, world.decided(2), world.decided(3), world.asked(), world.is_over(), world.done()]
[[], True, [(0, 'end')], [(0, 'end')], [], True, 0]
>>> made(tree, text, [((1,), (1,))])
raises InvalidPaper([((1,), (1,))])
""")

    def test_worlds(self):
        self.play("""
>>> from upforgood.programs import Table
>>> from upforgood.trees import Tree
>>> from upforgood.worlds import World, fault_of
>>> tree = Tree(2, [(1, 2, ("letters", 2, 0))])
>>> text = (("tell", 1, (2,), 2, 0, False),)
>>> teller = Table("", {("", ("handed", 0)): ("", ((2, 1),), ()), ("", ("handed", 1)): ("", ((2, 1), (2, 2)), ())})
>>> hearer = Table("", {("", ("comes", 1, 1)): ("", (), (("decides", 0),)), ("", ("comes", 1, 2)): ("two", (), ()), ("two", ("comes", 1, 1)): ("", (), (("decides", 1),))})
>>> world = World(tree, text, [teller, hearer])
>>> [world.turn(), world.hand(1), world.under_way(), world.give(1, 2, 2), world.give(1, 2, 1), world.is_over(), world.fault(), world.decided(2)]
[0, [], [(1, 2, 1), (1, 2, 2)], [], [(2, ('decides', 1))], True, None, [(0, 1)]]
>>> [fault_of(tree, text, [teller, hearer], [("hand", 1), ("give", 1, 2, 1)]), fault_of(tree, text, [teller, teller], [("hand", 0), ("give", 1, 2, 1)])]
['wrong', 'never']
>>> world.hand(0)
raises NoTurn()
""")

    def test_worlds_again(self):
        self.play("""
>>> from upforgood.programs import Table
>>> from upforgood.trees import Tree
>>> from upforgood.worlds import World
>>> asker = Table(0, {(0, ("handed", 0)): (1, ((2, 1),), ()), (1, ("comes", 2, 1)): (0, (), (("answers", (0,)),)), (1, ("comes", 2, 2)): (0, (), (("answers", (1,)),))})
>>> asked = Table(0, {(0, ("comes", 1, 1)): (1, (), (("decides", 0),)), (1, ("handed", 0)): (0, ((1, 1),), ()), (1, ("handed", 1)): (0, ((1, 2), (3, 1)), ())})
>>> world = World(Tree(2, [(1, 2, ("letters", 1, 2))]), (("ask", 1, (2,), 1, (2,), False),), [asker, asked])
>>> [world.hand(0), world.calm(), world.asked(), world.turn(), world.done()]
[[], [('give', 1, 2, 1)], [2], None, 0]
>>> copy = world.copy()
>>> [world.answer(2, 1), world.give(2, 1, 2), world.is_over(), world.done(), world.asked(), copy.asked(), copy.under_way()]
[[], [(1, ('answers', (1,)))], True, 1, [], [2], []]
>>> [world.run(), copy.answer(2, 0), copy.line(2, 1).sent(1)]
[[('hand', 0), ('give', 1, 2, 1), ('answer', 2, 1), ('give', 2, 1, 2)], [], [1]]
>>> copy.give(2, 1, 2)
raises NotSent(2)
""")

    def test_judging(self):
        self.play("""
>>> from upforgood.judging import judged, tabled
>>> from upforgood.programs import Table
>>> from upforgood.trees import Tree
>>> tree = Tree(2, [(1, 2, ("letters", 2, 0))])
>>> text = (("tell", 1, (2,), 2, 0, False),)
>>> teller = Table("", {("", ("handed", 0)): ("", ((2, 1),), ()), ("", ("handed", 1)): ("", ((2, 2),), ())})
>>> hearer = Table("", {("", ("comes", 1, 1)): ("", (), (("decides", 0),)), ("", ("comes", 1, 2)): ("", (), (("decides", 1),))})
>>> wrong = Table("", {("", ("comes", 1, 1)): ("", (), (("decides", 1),)), ("", ("comes", 1, 2)): ("", (), (("decides", 1),))})
>>> [judged(tree, text, [teller, hearer], 5), judged(tree, text, [teller, wrong], 20)]
[None, [('hand', 0), ('give', 1, 2, 1)]]
>>> judged(tree, text, tabled(tree, text, [teller, wrong], 20), 20)
[('hand', 0), ('give', 1, 2, 1)]
>>> judged(tree, text, [teller, hearer], 4)
raises TooMany(5)
""")

    def test_breaking(self):
        self.play("""
>>> from upforgood.breaking import broken
>>> from upforgood.programs import Table
>>> from upforgood.trees import Tree
>>> from upforgood.worlds import fault_of
>>> tree = Tree(2, [(1, 2, ("letters", 2, 0))])
>>> text = (("tell", 1, (2,), 3, 0, False),)
>>> rows = {("", ("handed", 0)): ("", ((2, 1),), ()), ("", ("handed", 1)): ("", ((2, 2),), ()), ("", ("handed", 2)): ("", ((2, 1), (2, 2)), ())}
>>> hearer = Table("", {("", ("comes", 1, 1)): ("", (), (("decides", 0),)), ("", ("comes", 1, 2)): ("", (), (("decides", 1),))})
>>> [fault_of(tree, text, [Table("", rows), hearer], broken(tree, text, [Table("", rows), hearer])), fault_of(tree, text, [Table("", {}), hearer], broken(tree, text, [Table("", {}), hearer]))]
['wrong', 'never']
>>> broken(tree, (("tell", 1, (2,), 2, 0, False),), [Table("", rows), hearer])
raises Kept()
""")

    def test_leasts(self):
        self.play("""
>>> from upforgood.leasts import can_tell_within, fewest_answers, fewest_kinds, least_pairs, least_wires
>>> [least_pairs([6, 1], 6), least_pairs([4, 4, 4], 6), least_pairs([], 2), least_pairs([7], 2)]
[[(3, 2), (4, 1)], [(4, 4), (5, 3)], [(0, 0)], []]
>>> least_wires(3, [(2, 3), (1, 2)], (("ask", 1, (2, 3), 2, (3, 2), False), ("tell", 1, (2, 3), 4, 3, True)))
(7, 6)
>>> [can_tell_within([20], 6, 2, 0, 3), can_tell_within([20], 6, 2, 0, 2), can_tell_within([20], 6, 2, 1, 2)]
[True, False, True]
>>> [fewest_answers([20], 6, 2), fewest_kinds([20], 6, 2), fewest_answers([720], 6, 5), fewest_kinds([7], 2, 5)]
[0, 3, 4, None]
>>> can_tell_within([20], 6, 2, -1, 2)
raises InvalidAnswers(-1)
""")

    def test_servers(self):
        self.play("""
>>> from upforgood.service import can_serve, can_serve_raised, most_served
>>> from upforgood.servers import Service
>>> from upforgood.trees import Tree
>>> [can_serve(2, 2, 3, 3), can_serve(2, 3, 3, 3), can_serve(3, 2, 4, 4), can_serve(3, 3, 4, 4), can_serve(1, 0, 0, 0), can_serve(2, 1, 2, 1)]
[True, False, True, False, True, False]
>>> [can_serve_raised(2, 1, 2), can_serve_raised(2, 1, 1), can_serve_raised(1, 2, 4)]
[True, False, True]
>>> tree = Tree(3, [(1, 2, ("letters", 3, 3)), (2, 3, ("wires", 6))])
>>> [most_served(tree, 2, 8), most_served(tree, 2, 1)]
[2, 1]
>>> service = Service(tree, 2, 2)
>>> [service.free(), service.hand(1, 1), service.free(), len(service.calm()) > 0, service.decided(2), service.decided(3), service.count(), service.free()]
[True, [], False, True, [(0, 1)], [(0, 1)], 1, True]
>>> [service.left(2, 1), service.under_way(), service.decided(1)]
[(2, 2), [], []]
>>> [service.hand(3, 0), len(service.calm()) > 0, service.decided(1), service.decided(2), service.decided(3), service.count(), service.free()]
[[], True, [(1, 0)], [(0, 1), (1, 0)], [(0, 1)], 2, False]
>>> Service(tree, 2, 3)
raises NoService(2)
""")
