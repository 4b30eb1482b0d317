"""The examples of the document's interface."""

from tests.helper import Case


class Examples(Case):
    def test_errors(self):
        self.play("""
>>> from upforgood.errors import NoLine, NothingToUndo, TalkError
>>> [NoLine(1, w=3).u, NoLine(1, w=3).w, isinstance(NothingToUndo(), TalkError)]
[1, 3, True]
""")

    def test_numbers(self):
        self.play("""
>>> from upforgood.numbers import arrangements, choose, even_parts, factorial, most_arranged
>>> [factorial(0), factorial(5), choose(5, 2), choose(2, 3), arrangements([2, 1, 1]), arrangements([])]
[1, 120, 10, 0, 12, 1]
>>> [even_parts(7, 3), even_parts(2, 4), even_parts(0, 1)]
[(3, 2, 2), (1, 1, 0, 0), (0,)]
>>> [most_arranged(4, 2, 1), most_arranged(4, 1, 2), most_arranged(4, 3, 2), most_arranged(3, 3, 0)]
[12, 6, 0, 6]
>>> choose(-1, 2)
raises InvalidNumber(-1)
""")

    def test_ranks(self):
        self.play("""
>>> from upforgood.ranks import answers_of, many_raised, many_rounds, raised_of, raised_rank, rank_of, rounds_of
>>> [many_rounds(4, [1, 2]), many_rounds(3, [2, 2]), many_rounds(5, [])]
[12, 0, 1]
>>> [rounds_of(0, [2, 5, 7], [1, 1]), rounds_of(3, [2, 5, 7], [1, 1]), rank_of(((7,), (5,)), [2, 5, 7])]
[((2,), (5,)), ((5,), (7,)), 5]
>>> [many_raised(4, [1, 1]), raised_of(0, [1, 2, 3, 4], [1, 1]), raised_of(7, [1, 2, 3, 4], [1, 1])]
[8, ((1,), (3,)), ((4,), (3,))]
>>> [answers_of(((1,), (3,)), [1, 2, 3, 4]), answers_of(((4,), (3,)), [1, 2, 3, 4]), answers_of(((2,), (3,)), [1, 2, 3, 4])]
[(2,), (1,), (1,)]
>>> [raised_rank(((2,), (3,)), [1, 2, 3, 4]), raised_rank(((2,), (4,)), [1, 2, 3, 4])]
[2, 3]
>>> rounds_of(6, [2, 5, 7], [1, 1])
raises InvalidRank(6)
""")

    def test_lines(self):
        self.play("""
>>> from upforgood.lines import Line, is_spec
>>> [is_spec(("letters", 3, 0)), is_spec(("wires", 11)), is_spec(["wires", 2])]
[True, False, False]
>>> line = Line(("letters", 3, 1))
>>> [line.send(0, 2), line.send(0, 2), line.under_way(1), line.come(1, 2), line.come(1, 2), line.under_way(1)]
[True, False, [2], True, False, []]
>>> [line.unsent(0), line.left(), line.sent(0), line.come_to(1)]
[[1, 3], (2, 1), [2], [2]]
>>> wires = Line(("wires", 3))
>>> [wires.send(0, 1), wires.send(1, 1), wires.under_way(1), wires.come(1, 1), wires.send(1, 2), wires.under_way(0), wires.left()]
[True, True, [], False, True, [2], (1,)]
>>> [line.spec, line.kinds(1), line.copy().left(), wires.unsent(0), wires.unsent(1)]
[('letters', 3, 1), 1, (2, 1), [2, 3], [3]]
>>> line.come(1, 3)
raises NotSent(3)
""")

    def test_trees_and_texts(self):
        self.play("""
>>> from upforgood.trees import Tree, beyond, path
>>> from upforgood.texts import due_of, is_text, own_row, values_of
>>> tree = Tree(4, [(1, 2, ("letters", 4, 4)), (2, 3, ("wires", 6)), (2, 4, ("letters", 1, 1))])
>>> [path(tree, 3, 1), beyond(tree, 2, 3), beyond(tree, 2, 1), tree.neighbours(2), tree.spec(3, 2)]
[[3, 2, 1], [3], [1], [1, 3, 4], ('wires', 6)]
>>> [tree == Tree(4, tree.lines[::-1]), tree == Tree(2, [(1, 2, ("letters", 4, 4))]), tree.lines[2], path(tree, 4, 4)]
[True, False, (2, 4, ('letters', 1, 1)), [4]]
>>> text = (("ask", 1, (2, 3), 2, (3, 2), False), ("tell", 1, (2, 3), 4, 3, True), ("deal", 3, (1, 2), (2, 5), 0, False))
>>> [is_text(tree, text), is_text(tree, text[1:]), is_text(tree, ()), [values_of(step) for step in text]]
[True, True, False, [2, 4, 10]]
>>> [due_of(text[1], 4), due_of(text[2], 7), due_of(text[0], 1)]
[[(2, 'end'), (3, 'end')], [(1, 1), (2, 2)], [(2, 1), (3, 1)]]
>>> [own_row(tree, text, 1, 2), own_row(tree, text, 3, 2), own_row(tree, text, 2, 4)]
[[(1, 2), (2, 6), (1, 5), (2, 2)], [(2, 2), (3, 2), (2, 5), (3, 10)], []]
>>> due_of(text[0], 2)
raises InvalidValue(2)
>>> beyond(tree, 1, 3)
raises NoLine(1, 3)
""")

    def test_programs(self):
        self.play("""
>>> from upforgood.programs import Folded, Table
>>> table = Table("wait", {("wait", ("handed", 0)): ("told", ((2, 1), (2, 4)), ()), ("told", ("comes", 2, 1)): ("over", (), (("done",),))})
>>> [table.first(), table.step("wait", ("handed", 0)), table.step("wait", ("handed", 1))]
['wait', ('told', ((2, 1), (2, 4)), ()), ('wait', (), ())]
>>> [Folded(table, [(2, 3)]).step("wait", ("handed", 0)), Folded(table, [(2, 0)]).step("wait", ("handed", 0)), Folded(table, [(2, 2)]).first()]
[('told', ((2, 1),), ()), ('told', (), ()), 'wait']
>>> [table == Table("wait", table.rows()), table == Table("told", table.rows()), len(table.rows()), Table((0, ("a", ())), {}).first()]
[True, False, 2, (0, ('a', ()))]
>>> Table("wait", {"wait": 1})
raises InvalidRows({'wait': 1})
""")

    def test_rows(self):
        self.play("""
>>> from upforgood.rows import can_tell, fits, left_by, plan, stairs, stairs_hold
>>> [can_tell([6, 2], 3, 2), can_tell([2, 6], 2, 3), can_tell([3, 2, 2], 3, 2), can_tell([3, 1, 2], 3, 1), can_tell([2, 1, 3], 3, 1)]
[False, True, True, True, False]
>>> [fits([3, 1, 2], 3, 1, ((1,), (1,), (1,))), fits([3, 1, 2], 3, 1, ((2,), (1,), (1,))), fits([6], 3, 1, ((1, 1),)), fits([6], 3, 0, ((1, 1),))]
[True, False, True, False]
>>> [plan([1, 1], 1, 1), plan([5], 3, 0), plan([], 0, 0)]
[((1,), (1,)), None, ()]
>>> [left_by(((1,), (1,), (1,)), 3, 1), left_by(((1, 1),), 3, 1), left_by((), 2, 5)]
[(1, 0), (1, 0), (2, 5)]
>>> stairs([2, 2], 3)
[[None, None, 2, 2], [None, None, 0, 0], [0, 0, 0, 0]]
>>> [stairs_hold([2], 1, ((None, None), [0, 0])), stairs_hold([2], 1, [[None, 0], [0, 0]])]
[True, False]
>>> can_tell([0], 3, 1)
raises InvalidRow([0])
""")

    def test_wires(self):
        self.play("""
>>> from upforgood.wires import can_raise, leasts, most_raised, raise_fits, raise_plan
>>> [most_raised(wires) for wires in range(9)]
[0, 1, 2, 3, 8, 20, 48, 168, 560]
>>> [can_raise([3, 2, 1], 3), can_raise([3, 3], 3), can_raise([], 0), can_raise([8], 4), can_raise([9], 4)]
[True, False, True, True, False]
>>> [raise_fits([8], 4, ((1, 1),)), raise_fits([6, 1], 4, ((2,), (1,))), raise_fits([8, 1], 4, ((1, 1), (1,))), raise_fits([8, 1], 4, ((1, 1), ()))]
[True, True, True, False]
>>> [raise_plan([2, 1], 2), raise_plan([9], 4), raise_plan([], 0)]
[((1,), (1,)), None, ()]
>>> [leasts([2, 6, 5]), leasts([2, 2, 5]), leasts([])]
[[7, 6, 4, 0], [6, 5, 4, 0], [0]]
>>> most_raised(25)
raises InvalidWires(25)
""")

    def test_keeping(self):
        self.play("""
>>> from upforgood.trees import Tree
>>> from upforgood.keeping import barred, can_keep, is_paper, papers, uses
>>> text = (("ask", 1, (2, 3), 2, (3, 2), False), ("tell", 1, (2, 3), 4, 3, True))
>>> tree = Tree(3, [(1, 2, ("wires", 7)), (2, 3, ("letters", 4, 3))])
>>> [can_keep(tree, text), barred(tree, text), barred(Tree(3, [(1, 2, ("wires", 6)), (2, 3, ("letters", 1, 8))]), text)]
[True, [], [(1, 2), (2, 3)]]
>>> paper = [((1,), (1,), (1,)), ((1,), (1,), (1, 1))]
>>> [is_paper(tree, text, paper), is_paper(tree, text, [((1,), (1,), (1,)), ((1,), (1,), (2,))])]
[True, False]
>>> [is_paper(tree, text, papers(tree, text)), papers(Tree(3, [(1, 2, ("wires", 6)), (2, 3, ("letters", 4, 3))]), text)]
[True, None]
>>> [uses(tree, text, paper, 0), uses(tree, text, paper, 1)]
[[(1, 1), (1, 1)], [(1, 0), (2, 1)]]
>>> uses(tree, text, paper, 2)
raises InvalidAt(2)
""")

    def test_ends(self):
        self.play("""
>>> from upforgood.ends import made
>>> from upforgood.keeping import papers
>>> from upforgood.trees import Tree
>>> from upforgood.worlds import World
>>> tree = Tree(3, [(1, 2, ("letters", 3, 2)), (2, 3, ("wires", 5))])
>>> text = (("tell", 1, (2, 3), 3, 3, False), ("tell", 3, (1,), 2, 0, False))
>>> world = World(tree, text, made(tree, text, papers(tree, text)))
>>> [world.hand(2), len(world.calm()) > 0, world.fault(), world.decided(2), world.decided(3), world.turn(), world.done()]
[[], True, None, [(0, 2)], [(0, 2)], 1, 1]
>>> [world.hand(1), len(world.calm()) > 0, world.is_over(), world.decided(1), world.fault()]
[[], True, True, [(1, 1)], None]
""")

    def test_ends_again(self):
        self.play("""
>>> from upforgood.ends import made
>>> from upforgood.keeping import papers
>>> from upforgood.trees import Tree
>>> from upforgood.worlds import World
>>> tree = Tree(3, [(1, 2, ("letters", 2, 2)), (1, 3, ("wires", 4))])
>>> text = (("ask", 1, (2, 3), 1, (2, 3), True),)
>>> paper = papers(tree, text)
>>> world = World(tree, text, made(tree, text, paper))
>>> [world.hand(0), len(world.calm()) > 0, world.asked(), world.answer(3, 2), len(world.calm()) > 0, world.asked(), world.done()]
[[], True, [2, 3], [], True, [2], 0]
>>> [world.answer(2, 1), len(world.calm()) > 0, world.done(), world.is_over(), world.fault()]
[[], True, 1, True, None]
>>> world = World(tree, text, made(tree, text, paper))
>>> [world.hand(1), len(world.calm()) > 0, world.decided(2), world.decided(3), world.asked(), world.is_over(), world.done()]
[[], True, [(0, 'end')], [(0, 'end')], [], True, 0]
>>> made(tree, text, [((1,), (1,))])
raises InvalidPaper([((1,), (1,))])
""")

    def test_worlds(self):
        self.play("""
>>> from upforgood.programs import Table
>>> from upforgood.trees import Tree
>>> from upforgood.worlds import World, fault_of
>>> tree = Tree(2, [(1, 2, ("letters", 2, 0))])
>>> text = (("tell", 1, (2,), 2, 0, False),)
>>> teller = Table("", {("", ("handed", 0)): ("", ((2, 1),), ()), ("", ("handed", 1)): ("", ((2, 1), (2, 2)), ())})
>>> hearer = Table("", {("", ("comes", 1, 1)): ("", (), (("decides", 0),)), ("", ("comes", 1, 2)): ("two", (), ()), ("two", ("comes", 1, 1)): ("", (), (("decides", 1),))})
>>> world = World(tree, text, [teller, hearer])
>>> [world.turn(), world.hand(1), world.under_way(), world.give(1, 2, 2), world.give(1, 2, 1), world.is_over(), world.fault(), world.decided(2)]
[0, [], [(1, 2, 1), (1, 2, 2)], [], [(2, ('decides', 1))], True, None, [(0, 1)]]
>>> [fault_of(tree, text, [teller, hearer], [("hand", 1), ("give", 1, 2, 1)]), fault_of(tree, text, [teller, teller], [("hand", 0), ("give", 1, 2, 1)])]
['wrong', 'never']
>>> world.hand(0)
raises NoTurn()
""")

    def test_worlds_again(self):
        self.play("""
>>> from upforgood.programs import Table
>>> from upforgood.trees import Tree
>>> from upforgood.worlds import World
>>> asker = Table(0, {(0, ("handed", 0)): (1, ((2, 1),), ()), (1, ("comes", 2, 1)): (0, (), (("answers", (0,)),)), (1, ("comes", 2, 2)): (0, (), (("answers", (1,)),))})
>>> asked = Table(0, {(0, ("comes", 1, 1)): (1, (), (("decides", 0),)), (1, ("handed", 0)): (0, ((1, 1),), ()), (1, ("handed", 1)): (0, ((1, 2), (3, 1)), ())})
>>> world = World(Tree(2, [(1, 2, ("letters", 1, 2))]), (("ask", 1, (2,), 1, (2,), False),), [asker, asked])
>>> [world.hand(0), world.calm(), world.asked(), world.turn(), world.done()]
[[], [('give', 1, 2, 1)], [2], None, 0]
>>> copy = world.copy()
>>> [world.answer(2, 1), world.give(2, 1, 2), world.is_over(), world.done(), world.asked(), copy.asked(), copy.under_way()]
[[], [(1, ('answers', (1,)))], True, 1, [], [2], []]
>>> [world.run(), copy.answer(2, 0), copy.line(2, 1).sent(1)]
[[('hand', 0), ('give', 1, 2, 1), ('answer', 2, 1), ('give', 2, 1, 2)], [], [1]]
>>> copy.give(2, 1, 2)
raises NotSent(2)
""")

    def test_judging(self):
        self.play("""
>>> from upforgood.judging import judged, tabled
>>> from upforgood.programs import Table
>>> from upforgood.trees import Tree
>>> tree = Tree(2, [(1, 2, ("letters", 2, 0))])
>>> text = (("tell", 1, (2,), 2, 0, False),)
>>> teller = Table("", {("", ("handed", 0)): ("", ((2, 1),), ()), ("", ("handed", 1)): ("", ((2, 2),), ())})
>>> hearer = Table("", {("", ("comes", 1, 1)): ("", (), (("decides", 0),)), ("", ("comes", 1, 2)): ("", (), (("decides", 1),))})
>>> wrong = Table("", {("", ("comes", 1, 1)): ("", (), (("decides", 1),)), ("", ("comes", 1, 2)): ("", (), (("decides", 1),))})
>>> [judged(tree, text, [teller, hearer], 5), judged(tree, text, [teller, wrong], 20)]
[None, [('hand', 0), ('give', 1, 2, 1)]]
>>> judged(tree, text, tabled(tree, text, [teller, wrong], 20), 20)
[('hand', 0), ('give', 1, 2, 1)]
>>> judged(tree, text, [teller, hearer], 4)
raises TooMany(5)
""")

    def test_breaking(self):
        self.play("""
>>> from upforgood.breaking import broken
>>> from upforgood.programs import Table
>>> from upforgood.trees import Tree
>>> from upforgood.worlds import fault_of
>>> tree = Tree(2, [(1, 2, ("letters", 2, 0))])
>>> text = (("tell", 1, (2,), 3, 0, False),)
>>> rows = {("", ("handed", 0)): ("", ((2, 1),), ()), ("", ("handed", 1)): ("", ((2, 2),), ()), ("", ("handed", 2)): ("", ((2, 1), (2, 2)), ())}
>>> hearer = Table("", {("", ("comes", 1, 1)): ("", (), (("decides", 0),)), ("", ("comes", 1, 2)): ("", (), (("decides", 1),))})
>>> [fault_of(tree, text, [Table("", rows), hearer], broken(tree, text, [Table("", rows), hearer])), fault_of(tree, text, [Table("", {}), hearer], broken(tree, text, [Table("", {}), hearer]))]
['wrong', 'never']
>>> broken(tree, (("tell", 1, (2,), 2, 0, False),), [Table("", rows), hearer])
raises Kept()
""")

    def test_leasts(self):
        self.play("""
>>> from upforgood.leasts import can_tell_within, fewest_answers, fewest_kinds, least_pairs, least_wires
>>> [least_pairs([6, 1], 6), least_pairs([4, 4, 4], 6), least_pairs([], 2), least_pairs([7], 2)]
[[(3, 2), (4, 1)], [(4, 4), (5, 3)], [(0, 0)], []]
>>> least_wires(3, [(2, 3), (1, 2)], (("ask", 1, (2, 3), 2, (3, 2), False), ("tell", 1, (2, 3), 4, 3, True)))
(7, 6)
>>> [can_tell_within([20], 6, 2, 0, 3), can_tell_within([20], 6, 2, 0, 2), can_tell_within([20], 6, 2, 1, 2)]
[True, False, True]
>>> [fewest_answers([20], 6, 2), fewest_kinds([20], 6, 2), fewest_answers([720], 6, 5), fewest_kinds([7], 2, 5)]
[0, 3, 4, None]
>>> can_tell_within([20], 6, 2, -1, 2)
raises InvalidAnswers(-1)
""")

    def test_servers(self):
        self.play("""
>>> from upforgood.service import can_serve, can_serve_raised, most_served
>>> from upforgood.servers import Service
>>> from upforgood.trees import Tree
>>> [can_serve(2, 2, 3, 3), can_serve(2, 3, 3, 3), can_serve(3, 2, 4, 4), can_serve(3, 3, 4, 4), can_serve(1, 0, 0, 0), can_serve(2, 1, 2, 1)]
[True, False, True, False, True, False]
>>> [can_serve_raised(2, 1, 2), can_serve_raised(2, 1, 1), can_serve_raised(1, 2, 4)]
[True, False, True]
>>> tree = Tree(3, [(1, 2, ("letters", 3, 3)), (2, 3, ("wires", 6))])
>>> [most_served(tree, 2, 8), most_served(tree, 2, 1)]
[2, 1]
>>> service = Service(tree, 2, 2)
>>> [service.free(), service.hand(1, 1), service.free(), len(service.calm()) > 0, service.decided(2), service.decided(3), service.count(), service.free()]
[True, [], False, True, [(0, 1)], [(0, 1)], 1, True]
>>> [service.left(2, 1), service.under_way(), service.decided(1)]
[(2, 2), [], []]
>>> [service.hand(3, 0), len(service.calm()) > 0, service.decided(1), service.decided(2), service.decided(3), service.count(), service.free()]
[[], True, [(1, 0)], [(0, 1), (1, 0)], [(0, 1)], 2, False]
>>> Service(tree, 2, 3)
raises NoService(2)
""")

    def test_exchange(self):
        self.play("""
>>> from upforgood.exchange import Exchange, both, both_known
>>> [both(2, 2), both(3, 2), both(5, 2), both_known(2, 2), both_known(5, 2), both(4, 4), both_known(6, 3), both(2, 5)]
[(2, 2), (6, 2), (60, 2), (2, 2), (30, 2), (24, 24), (180, 6), (2, 60)]
>>> exchange = Exchange(3, 2, True)
>>> [exchange.numbers(), exchange.hand(1, 1), exchange.decided(0), exchange.hand(0, 4), len(exchange.calm()) > 0]
[(6, 2), [], None, [], True]
>>> [exchange.decided(0), exchange.decided(1), exchange.knows(0), exchange.knows(1), exchange.under_way()]
[1, 4, True, True, []]
>>> loose = Exchange(2, 5, False)
>>> [loose.numbers(), loose.hand(0, 0), loose.decided(1), loose.hand(1, 59), len(loose.calm()) > 0]
[(2, 60), [], None, [], True]
>>> [loose.decided(0), loose.decided(1), loose.knows(0), loose.knows(1)]
[59, 0, False, False]
>>> exchange.hand(0, 4)
raises Handed(0)
""")

    def test_sessions(self):
        self.play("""
>>> from upforgood.sessions import Session, play
>>> lines = ["ends 2", "line 1 2 letters 3 1", "tell 1 to 2 of 3 then 2", "tell 2 to 1 of 2 then nobody", "keep"]
>>> play(lines)
['ends', 'line', 'step', 'step', 'no 1 2']
>>> session = Session()
>>> [session.do(line) for line in lines[:3] + ["tell 2 to 1 of 1 then nobody", "keep", "start", "show", "hand 2"]]
['ends', 'line', 'step', 'step', 'yes', 'started', 'turn 0', 'nothing']
>>> [session.do("calm") in ["1", "2"], session.do("show"), session.do("hand 0"), session.do("calm"), session.do("show")]
[True, 'turn 1', 'nothing', '1', 'over']
>>> [session.undo(), session.do("show"), session.undo(), session.undo(), session.do("show"), len(session.lines())]
[None, 'over', None, None, 'open, 2 1 1', 12]
>>> session.do("tell 1 to 2 of 2 then nobody")
raises InvalidLine('tell 1 to 2 of 2 then nobody')
>>> asked = ["ends 3", "line 2 3 wires 4", "line 1 2 letters 2 2", "ask 1 to 3 of 1 answers 2 or end", "start", "hand 0"]
>>> desk = Session()
>>> [[desk.do(line) for line in asked], desk.do("calm") != "0", desk.do("show"), desk.do("answer 3 1"), desk.do("calm") != "0", desk.do("show")]
[['ends', 'line', 'line', 'step', 'started', 'nothing'], True, 'open', 'nothing', True, 'over']
>>> desk.do("answer 3 1")
raises NotAsked(3)
""")

    def test_noes(self):
        self.play("""
>>> from upforgood.noes import is_no_paper, no_paper, raised_until, told_until
>>> from upforgood.trees import Tree
>>> text = (("tell", 1, (2,), 2, 2, False), ("tell", 2, (1,), 2, 0, False))
>>> [no_paper(Tree(2, [(1, 2, ("letters", 2, 2))]), text), no_paper(Tree(2, [(1, 2, ("wires", 2))]), text)]
[None, (1, 2, [3, 2, 0])]
>>> no_paper(Tree(2, [(1, 2, ("letters", 2, 1))]), text)
(1, 2, [[None, None, 2], [None, None, 0], [0, 0, 0]])
>>> [is_no_paper(Tree(2, [(1, 2, ("wires", 2))]), text, (1, 2, [3, 2, 0])), is_no_paper(Tree(2, [(1, 2, ("wires", 3))]), text, (1, 2, [3, 2, 0]))]
[True, False]
>>> tree = Tree(3, [(1, 2, ("letters", 4, 2)), (2, 3, ("wires", 2))])
>>> no_paper(tree, (("tell", 3, (1,), 3, 0, False),))
(1, 2, [[None, None, None, 0, 0], [0, 0, 0, 0, 0]])
>>> [is_no_paper(tree, (("tell", 3, (1,), 3, 0, False),), value) for value in [(2, 3, [3, 0]), (2, 3, (3, 0)), (2, 3, [4, 0]), (3, 2, [3, 0])]]
[True, True, False, False]
>>> [told_until([6, 2], 3, 2), told_until([3, 1, 2], 3, 1), told_until([3], 2, 0), raised_until([3, 3], 3)]
[1, 3, 0, 1]
>>> raised_until([3, 3], 25)
raises InvalidWires(25)
""")

    def test_costs(self):
        self.play("""
>>> from upforgood.costs import allowed, cheapest, cost_of
>>> from upforgood.trees import Tree
>>> text, back = (("tell", 1, (2,), 6, 1, False),), (("tell", 2, (1,), 2, 0, False),)
>>> [allowed(2, [(1, 2)], [text], 1, 2), allowed(2, [(1, 2)], [text, back], 1, 2), allowed(2, [(1, 2)], [(("tell", 1, (2,), 10 ** 12, 0, False),)], 1, 2)]
[([(3, 2), (4, 1)], 4), ([(3, 2)], 4), ([], None)]
>>> [cheapest(2, [(1, 2)], [(10, 1, None)], [text]), cheapest(2, [(1, 2)], [(10, 30, None)], [text]), cheapest(2, [(1, 2)], [(10, 30, 1)], [text]), cheapest(2, [(1, 2)], [(None, 3, None)], [text])]
[(32, (('letters', 3, 2),)), (70, (('letters', 4, 1),)), (4, (('wires', 4),)), None]
>>> cheapest(3, [(2, 3), (1, 2)], [(3, 1, 1), (1, 7, None)], [(("tell", 1, (3,), 2, 3, False),)])
(4, (('wires', 2), ('letters', 2, 0)))
>>> [cost_of(Tree(2, [(1, 2, ("letters", 3, 2))]), [(10, 1, 4)]), cost_of(Tree(2, [(1, 2, ("wires", 3))]), [(10, 1, None)])]
[32, None]
>>> allowed(2, [(1, 2)], [text], 2, 1)
raises NoLine(2, 1)
""")

    def test_merging(self):
        self.play("""
>>> from upforgood.merging import least_table, least_tables, parting
>>> from upforgood.programs import Table
>>> rows = {("a", ("handed", 0)): ("b", ((2, 1),), ()), ("b", ("comes", 2, 1)): ("c", (), (("done",),)), ("c", ("handed", 5)): ("d", (), ()), ("x", ("handed", 0)): ("a", (), ())}
>>> least = least_table(Table("a", rows))
>>> [least.first(), sorted(least.rows().items())]
[0, [((0, ('handed', 0)), (1, ((2, 1),), ())), ((1, ('comes', 2, 1)), (2, (), (('done',),)))]]
>>> [parting(Table("a", rows), least), parting(Table("b", rows), least), parting(Table("d", {}), Table("c", rows))]
[None, [('comes', 2, 1)], None]
>>> [table == least for table in least_tables([Table("a", rows), least])]
[True, True]
>>> least_tables(0)
raises InvalidPrograms(0)
""")

    def test_turnings(self):
        self.play("""
>>> from upforgood.turnings import can_order, kept_order, orders, room, room_of, room_raised, row_of
>>> from upforgood.trees import Tree
>>> [row_of([(1, 3), (1, 2), (0, 4)]), row_of([])]
[(1, [3, 1, 2, 4]), (0, [])]
>>> [can_order(("letters", 3, 2), [(0, 6), (1, 2)]), can_order(("letters", 3, 2), [(1, 2), (0, 6)])]
[False, True]
>>> [orders(("letters", 3, 2), [(0, 6), (1, 2)]), orders(("wires", 4), [(0, 2), (0, 2)]), orders(("wires", 3), [(0, 2), (0, 2)])]
[[((1, 2), (0, 6))], [((0, 2), (0, 2))], []]
>>> [room([6, 1], 3, 2), room([2, 1], 2, 1), room_raised([2, 3], 4), room_raised([3, 3], 3)]
[[6, 1], [2, 1], [4, 3], [0, 2]]
>>> tree = Tree(2, [(1, 2, ("letters", 3, 2))])
>>> [kept_order(tree, [(1, (2,), 6), (2, (1,), 2)]), kept_order(tree, [(1, (2,), 6), (2, (1,), 3)])]
[(('tell', 2, (1,), 2, 1, False), ('tell', 1, (2,), 6, 0, False)), None]
>>> text = (("tell", 1, (2,), 1, 2, True), ("tell", 2, (1,), 2, 0, False))
>>> [room_of(tree, text, 0), room_of(tree, text, 1)]
[2, 2]
>>> room_of(tree, text, 2)
raises InvalidAt(2)
""")

    def test_records(self):
        self.play("""
>>> from upforgood.programs import Table
>>> from upforgood.records import is_true, read_record, record_of, untruth
>>> from upforgood.trees import Tree
>>> tree = Tree(2, [(1, 2, ("letters", 2, 0))])
>>> text = (("tell", 1, (2,), 2, 0, False),)
>>> teller = Table("", {("", ("handed", 0)): ("", ((2, 1),), ()), ("", ("handed", 1)): ("", ((2, 1), (2, 2)), ())})
>>> hearer = Table("", {("", ("comes", 1, 1)): ("", (), (("decides", 0),)), ("", ("comes", 1, 2)): ("two", (), ()), ("two", ("comes", 1, 1)): ("", (), (("decides", 1),))})
>>> lines = record_of(tree, text, [teller, hearer], [("hand", 1), ("give", 1, 2, 2), ("give", 1, 2, 1)])
>>> lines[:7]
['ends 2', 'line 1 2 letters 2 0', 'tell 1 to 2 of 2 then nobody', 'program 1', 'at 0 handed 0 goes 0 sends 2 1', 'at 0 handed 1 goes 0 sends 2 1, 2 2', 'program 2']
>>> lines[7:]
['at 0 comes 1 1 goes 0 says decides 0', 'at 0 comes 1 2 goes 1', 'at 1 comes 1 1 goes 0 says decides 1', 'run', 'hand 1 : nothing', 'give 1 2 2 : nothing', 'give 1 2 1 : 2 decides 1', 'over']
>>> [is_true(lines), untruth(lines[:14] + ["open"]), untruth(lines[:13] + ["give 1 2 1 : nothing", "over"]), is_true(lines[:5]), read_record(lines)[1] == text]
[True, 14, 13, False, True]
>>> record_of(tree, text, [teller, teller], [("hand", 0), ("give", 1, 2, 1)])[-3:]
['hand 0 : nothing', 'give 1 2 1 : nothing', 'fault never']
>>> read_record(lines[:5])
raises BadLine(5)
>>> read_record(lines[:7] + ["at 0 comes 2 1 goes 1 sends 3 1, 3 2 says decides 0", "at 0 handed 4 goes 2"])
raises BadLine(9)
>>> read_record(lines[:7] + ["at 0 handed 4 goes 2", "at 0 comes 2 1 goes 1"])
raises BadLine(8)
""")

    def test_bench(self):
        self.play("""
>>> from upforgood.bench import Bench
>>> from upforgood.trees import Tree
>>> bench = Bench(Tree(2, [(1, 2, ("letters", 3, 2))]))
>>> [bench.put("a", (("tell", 1, (2,), 6, 0, False),)), bench.put("b", (("tell", 1, (2,), 6, 2, False), ("tell", 2, (1,), 2, 0, False)))]
[None, None]
>>> [bench.names(), bench.verdicts(), bench.barred("b"), bench.needs(1, 2), bench.spare(1, 2)]
[['a', 'b'], [('a', True), ('b', False)], [(1, 2)], ['b'], [('letters', 3, 1)]]
>>> [bench.compared("a", "b"), bench.compared("b", "a"), bench.compared("a", "a")]
[['less'], ['more'], ['same']]
>>> [bench.put("c", (("tell", 2, (1,), 6, 0, False),)), bench.compared("a", "c"), bench.text("c")[0][:3], bench.drop("c"), bench.names()]
[None, ['unlike'], ('tell', 2, (1,)), None, ['a', 'b']]
>>> [bench.change(2, 1, ("wires", 5)), bench.verdicts(), bench.spare(2, 1), bench.undo(), bench.tree().lines, bench.deeds()]
[None, [('a', True), ('b', True)], [('wires', 4)], None, ((1, 2, ('letters', 3, 2)),), 4]
>>> [bench.redo(), bench.tree().lines, bench.deeds(), bench.undo(), bench.undo(), bench.names()]
[None, ((1, 2, ('wires', 5)),), 5, None, None, ['a', 'b', 'c']]
>>> bench.text("d")
raises NoText('d')
""")

    def test_stars(self):
        self.play("""
>>> from upforgood.stars import Gather, Spread, gathered, spread
>>> [gathered([3, 2], 1), gathered([4], 0), spread(3, [2, 0]), spread(3, [2, 1])]
[(6, 2), (6,), 3, 6]
>>> gather = Gather([3, 2], 1)
>>> [gather.hand(2, 1), gather.hand(1, 5), len(gather.calm()) > 0, gather.decided(), gather.under_way()]
[[], [], True, [(1, 5), (2, 1)], []]
>>> lone = Gather([1], 0)
>>> [lone.hand(1, 0), lone.under_way(), lone.give(1, 0, 1), lone.give(1, 0, 1), lone.calm(), lone.decided()]
[[], [(1, 0, 1)], [(1, 0)], [], [], [(1, 0)]]
>>> star = Spread(3, [2, 1])
>>> [star.hand(4), len(star.calm()) > 0, star.decided()]
[[], True, [(1, 4), (2, 4)]]
>>> star.hand(4)
raises Handed(0)
""")
