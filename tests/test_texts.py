"""Points 5, 53 and 54: texts, their values, and what they ask of each line."""

import unittest
from itertools import combinations, product

from tests.helper import NO_INTEGERS, NO_LISTS, Case
from tests.test_trees import all_trees, parts, with_specs
from upforgood.errors import InvalidEnd, InvalidText, InvalidValue, NoLine
from upforgood.texts import due_of, is_text, own_row, values_of
from upforgood.trees import Tree

TWO = Tree(2, [(1, 2, ("letters", 3, 2))])
# The ends 1 to 5 as 1 - 2 - 3, and 4 and 5 at 2.
FIVE = Tree(5, with_specs([(1, 2), (2, 3), (2, 4), (2, 5)]))
NO_TUPLES = NO_LISTS + [[], [1], [1, 2]]


class IsText(Case):
    def right(self, value, tree=FIVE):
        self.same(is_text(tree, value), True)

    def wrong(self, value, tree=FIVE):
        self.same(is_text(tree, value), False)
        self.refused(InvalidText, value, own_row, tree, value, 1, 2)

    def test_right(self):
        self.right((("tell", 1, (2,), 1, 0, False),))
        self.right((("tell", 1, (2, 3, 4, 5), 10 ** 12, 5, True),))
        self.right((("deal", 3, (1, 5), (10 ** 12, 1), 4, True),))
        self.right((("ask", 3, (1, 5), 10 ** 12, (1, 10 ** 12), True),))
        self.right((("tell", 1, (2,), 1, 3, False), ("ask", 3, (1,), 1, (1,), False), ("deal", 3, (1,), (1,), 0, False)))
        self.same(is_text(tree=TWO, value=(("tell", 1, (2,), 1, 2, False),)), True)

    def test_one_to_eight_steps(self):
        step = ("tell", 1, (2,), 3, 1, False)
        self.wrong(())
        for many in range(1, 9):
            self.right((step,) * many)
        for many in [9, 10, 20]:
            self.wrong((step,) * many)

    def test_who_goes_on(self):
        for first, goes_on in [
            (("tell", 1, (2, 3), 2, 1, False), 1), (("tell", 1, (2, 3), 2, 3, False), 3), (("tell", 1, (2, 3), 2, 5, True), 5),
            (("deal", 2, (1,), (2,), 4, False), 4), (("ask", 2, (1, 3), 2, (4, 4), False), 2),
        ]:
            for speaker in range(1, 6):
                hearer = 1 if speaker != 1 else 2
                second = ("tell", speaker, (hearer,), 2, 0, False)
                self.same(is_text(FIVE, (first, second)), speaker == goes_on)
                self.same(is_text(FIVE, (second[:4] + (1,) + second[5:], ("tell", 1, (2,), 2, 0, False), second)), False)

    def test_nobody_goes_on_from_the_last_step_alone(self):
        for word, many in [("tell", 2), ("deal", (2,))]:
            last = (word, 1, (2,), many, 0, False)
            self.right((last,))
            self.right((("tell", 2, (1,), 2, 1, False), last))
            self.wrong((last, ("tell", 1, (2,), 2, 0, False)))
            self.wrong((last, last))

    def test_words(self):
        for word in NO_TUPLES[:3] + ["Tell", "answer", "", ("tell",), ["tell"], 1, {"tell": 1}, "deals"]:
            self.wrong(((word, 1, (2,), 2, 0, False),))
        self.wrong((("deal", 1, (2,), 2, 0, False),))
        self.wrong((("ask", 1, (2,), 2, 0, False),))
        self.wrong((("tell", 1, (2,), (2,), 0, False),))
        self.wrong((("ask", 1, (2,), (2,), (2,), False),))

    def test_speakers(self):
        for speaker in [0, 6, -1] + NO_INTEGERS:
            for behind in [(2, 1), ((2,), 1), (2, (2,))]:
                self.wrong((("tell", speaker, (2,), 2, 1, False),))
                self.wrong((("deal", speaker, (2,), (2,), 1, False),))
                self.wrong((("ask", speaker, (2,), 2, (2,), False),))
        self.wrong((("tell", 3, (1,), 2, 0, False),), TWO)

    def test_hearers(self):
        wrong = NO_TUPLES + [
            (), [2], [2, 3], (3, 2), (2, 2), (1,), (1, 2), (2, 1), (0, 2), (2, 6), (-1,), (2, True), (True,), ("2",),
            (2, None), ((2,),), ([2],), (2, 3, 3),
        ]
        for hearers in wrong:
            numbers = (2,) * len(hearers) if isinstance(hearers, (tuple, list)) else (2,)
            self.wrong((("tell", 1, hearers, 2, 0, False),))
            self.wrong((("deal", 1, hearers, numbers, 0, False),))
            self.wrong((("ask", 1, hearers, 2, numbers, False),))
        self.wrong((("tell", 1, (2, 3), 2, 0, False),), TWO)

    def test_numbers_of_values(self):
        for wrong in [0, -1, 10 ** 12 + 1, 10 ** 30] + NO_INTEGERS:
            self.wrong((("tell", 1, (2,), wrong, 0, False),))
            self.wrong((("deal", 1, (2, 3), (2, wrong), 0, False),))
            self.wrong((("deal", 1, (2, 3), (wrong, 2), 0, False),))
            self.wrong((("ask", 1, (2,), wrong, (2,), False),))
            self.wrong((("ask", 1, (2, 3), 2, (wrong, 1), False),))
            self.wrong((("ask", 1, (2, 3), 2, (1, wrong), False),))

    def test_one_number_for_each_hearer(self):
        for wrong in NO_TUPLES + [(), (2,), (2, 2, 2), [2, 2], ((2, 2),), 2]:
            self.wrong((("deal", 1, (2, 3), wrong, 0, False),))
            self.wrong((("ask", 1, (2, 3), 2, wrong, False),))

    def test_q(self):
        for wrong in [6, -1, 10 ** 20] + NO_INTEGERS:
            self.wrong((("tell", 1, (2,), 2, wrong, False),))
            self.wrong((("deal", 1, (2,), (2,), wrong, False),))
            self.wrong((("tell", 1, (2,), 2, wrong, False), ("tell", 1, (2,), 2, 0, False)))
        self.wrong((("tell", 1, (2,), 2, 3, False),), TWO)

    def test_may_end(self):
        for wrong in [0, 1, None, "", "True", (), [], (True,), [True], {}]:
            self.wrong((("tell", 1, (2,), 2, 0, wrong),))
            self.wrong((("deal", 1, (2,), (2,), 0, wrong),))
            self.wrong((("ask", 1, (2,), 2, (2,), wrong),))
            self.wrong((("tell", 1, (2,), 2, 1, wrong), ("tell", 1, (2,), 2, 0, False)))

    def test_forms(self):
        step = ("tell", 1, (2,), 2, 0, False)
        for wrong in NO_TUPLES + [[step], step, (list(step),), (step[:5],), (step + (1,),), ((),), (None,), ((step,),), "tell"]:
            self.wrong(wrong)
        for at in range(6):
            self.wrong((step[:at] + step[at + 1:],))

    def test_each_step_counts(self):
        right = ("tell", 1, (2,), 2, 1, False)
        for at in range(8):
            text = [right] * 8
            text[at] = ("tell", 1, (2,), 0, 1, False)
            self.wrong(tuple(text))


class Values(Case):
    def test_values_of(self):
        self.same(values_of(("tell", 1, (2, 3), 7, 0, True)), 7)
        self.same(values_of(("tell", 1, (2, 3), 7, 0, False)), 7)
        self.same(values_of(("ask", 1, (2, 3), 7, (2, 3), True)), 7)
        self.same(values_of(("deal", 1, (2, 3, 4), (7, 2, 5), 0, True)), 70)
        self.same(values_of(step=("deal", 1, (2, 3, 4, 5), (10 ** 12,) * 4, 0, False)), 10 ** 48)

    def test_due_of_a_tell_and_an_ask(self):
        for word, behind in [("tell", 0), ("ask", (2, 3))]:
            step = (word, 2, (1, 3), 4, behind, False)
            self.same([due_of(step, 0), due_of(step, 3)], [[(1, 0), (3, 0)], [(1, 3), (3, 3)]])
            self.refused(InvalidValue, 4, due_of, step, 4)

    def test_due_of_a_deal(self):
        numbers = (2, 3, 1, 4)
        step = ("deal", 5, (1, 2, 3, 4), numbers, 0, False)
        tuples = sorted(product(*[range(number) for number in numbers]))
        self.assertEqual(len(tuples), values_of(step))
        for value, digits in enumerate(tuples):
            self.same(due_of(step, value), list(zip((1, 2, 3, 4), digits)))
        great = ("deal", 5, (1, 2, 3, 4), (10 ** 12,) * 4, 0, False)
        self.same(due_of(great, 10 ** 48 - 1), [(end, 10 ** 12 - 1) for end in (1, 2, 3, 4)])
        self.same(due_of(great, 10 ** 24 + 5), [(1, 0), (2, 1), (3, 0), (4, 5)])

    def test_the_end(self):
        for step in [("tell", 1, (2, 4), 3, 0, True), ("deal", 1, (2, 4), (3, 1), 0, True), ("ask", 1, (2, 4), 3, (5, 5), True)]:
            self.same(due_of(step=step, value=3), [(2, "end"), (4, "end")])
            self.assertNotIn("end", [due for _, due in due_of(step, 2)])
            self.refused(InvalidValue, 4, due_of, step, 4)
            step = step[:5] + (False,)
            self.refused(InvalidValue, 3, due_of, step, 3)

    def test_no_value(self):
        for ends in [True, False]:
            for step in [("tell", 1, (2,), 3, 0, ends), ("deal", 1, (2,), (3,), 0, ends), ("ask", 1, (2,), 3, (5,), ends)]:
                for wrong in [-1, 4, 10 ** 40, "end"] + NO_INTEGERS:
                    self.refused(InvalidValue, wrong, due_of, step, wrong)

    def test_lists_are_new(self):
        step = ("deal", 1, (2, 3), (3, 2), 0, True)
        for value in range(7):
            due_of(step, value).append(1)
            self.assertEqual(len(due_of(step, value)), 2)


def row_by_the_words(ends, pairs, text, u, w):
    """What point 54 says, word by word, with sides of our own."""
    left = parts(ends, [pair for pair in pairs if pair != (min(u, w), max(u, w))])
    row = []
    for step in text:
        word, speaker, hearers, many, behind, may_end = step
        near, far = (u, w) if left[speaker] == left[u] else (w, u)
        heard = [at for at, hearer in enumerate(hearers) if left[hearer] == left[far]]
        x, y = 1, 1
        for at in heard:
            x *= many[at] if word == "deal" else 1
            y *= behind[at] if word == "ask" else 1
        if word != "deal":
            x = many
        if may_end:
            x += 1
        beyond = word != "ask" and behind != 0 and left[behind] == left[far]
        if word == "ask":
            row += [(near, x), (far, y)] if heard else []
        elif heard and (beyond or behind == 0):
            row += [(near, x)]
        elif heard:
            row += [(near, x), (far, 1)]
        elif beyond:
            row += [(near, 1)]
    return row


class OwnRow(Case):
    def test_each_case_of_a_tell(self):
        for ends, more in [(False, 0), (True, 1)]:
            for u, w in [(2, 3), (3, 2)]:
                self.same(own_row(FIVE, (("tell", 1, (3, 4), 5, 1, ends),), u, w), [(2, 5 + more), (3, 1)])
                self.same(own_row(FIVE, (("tell", 1, (3, 4), 5, 3, ends),), u, w), [(2, 5 + more)])
                self.same(own_row(FIVE, (("tell", 1, (3, 4), 5, 0, ends),), u, w), [(2, 5 + more)])
                self.same(own_row(FIVE, (("tell", 1, (4, 5), 5, 3, ends),), u, w), [(2, 1)])
                self.same(own_row(FIVE, (("tell", 1, (4, 5), 5, 0, ends),), u, w), [])
                self.same(own_row(FIVE, (("tell", 1, (4, 5), 5, 4, ends),), u, w), [])
                self.same(own_row(FIVE, (("tell", 3, (1, 4), 5, 5, ends),), u, w), [(3, 5 + more)])
                self.same(own_row(FIVE, (("tell", 3, (1, 4), 5, 3, ends),), u, w), [(3, 5 + more), (2, 1)])

    def test_each_case_of_a_deal(self):
        for ends, more in [(False, 0), (True, 1)]:
            text = (("deal", 1, (2, 3, 4), (2, 3, 5), 1, ends),)
            self.same(own_row(FIVE, text, 1, 2), [(1, 30 + more), (2, 1)])
            self.same(own_row(FIVE, text, 3, 2), [(2, 3 + more), (3, 1)])
            self.same(own_row(FIVE, text, 2, 4), [(2, 5 + more), (4, 1)])
            self.same(own_row(FIVE, text, 2, 5), [])
            text = (("deal", 1, (2, 3, 4), (2, 3, 5), 5, ends),)
            self.same(own_row(FIVE, text, 2, 1), [(1, 30 + more)])
            self.same(own_row(FIVE, text, 2, 5), [(2, 1)])
            text = (("deal", 3, (1, 4), (1, 1), 0, ends),)
            self.same(own_row(FIVE, text, 1, 2), [(2, 1 + more)])
            self.same(own_row(FIVE, text, 2, 3), [(3, 1 + more)])

    def test_each_case_of_an_ask(self):
        for ends, more in [(False, 0), (True, 1)]:
            text = (("ask", 1, (2, 3, 4), 7, (2, 3, 5), ends),)
            self.same(own_row(FIVE, text, 1, 2), [(1, 7 + more), (2, 30)])
            self.same(own_row(FIVE, text, 2, 3), [(2, 7 + more), (3, 3)])
            self.same(own_row(FIVE, text, 4, 2), [(2, 7 + more), (4, 5)])
            self.same(own_row(FIVE, text, 5, 2), [])

    def test_all_steps_over_all_trees(self):
        texts = []
        for speaker in (1, 3):
            others = [end for end in range(1, 5) if end != speaker]
            for hearers in [chosen for many in (1, 2, 3) for chosen in combinations(others, many)]:
                numbers = (2, 3, 5)[:len(hearers)]
                for ends in (True, False):
                    texts.append((("ask", speaker, hearers, 7, numbers, ends),))
                    for behind in range(5):
                        texts.append((("tell", speaker, hearers, 7, behind, ends),))
                        texts.append((("deal", speaker, hearers, numbers, behind, ends),))
        for pairs, joins in all_trees(4):
            if joins:
                self.against_the_words(4, pairs, texts)

    def test_texts_of_many_steps(self):
        text = (
            ("ask", 1, (2, 3), 2, (3, 2), False), ("tell", 1, (2, 5), 4, 3, True), ("deal", 3, (1, 2), (2, 5), 4, False),
            ("tell", 4, (5,), 1, 1, False), ("ask", 1, (4, 5), 1, (1, 6), True), ("deal", 1, (2,), (9,), 2, True),
            ("tell", 2, (1, 3, 4, 5), 3, 2, False), ("tell", 2, (3,), 10 ** 12, 0, True),
        )
        for pairs in [chosen for chosen, joins in all_trees(5) if joins]:
            self.against_the_words(5, pairs, [text, text[:3], text[3:]])

    def against_the_words(self, ends, pairs, texts):
        tree = Tree(ends, with_specs(pairs))
        for text in texts:
            for u, w in pairs:
                row = own_row(tree, text, u, w)
                self.same(row, row_by_the_words(ends, pairs, text, u, w))
                self.same(own_row(tree=tree, text=text, u=w, w=u), row)
                speakers = [end for end, _ in row]
                self.assertTrue(all(speakers[at] != speakers[at + 1] for at in range(len(row) - 1)))

    def test_lists_are_new(self):
        text = (("tell", 1, (2,), 3, 0, False),)
        own_row(TWO, text, 1, 2).append(1)
        self.same(own_row(TWO, text, 1, 2), [(1, 3)])


class Refused(Case):
    def test_order(self):
        text = (("tell", 1, (2,), 3, 0, False),)
        for wrong in [0, 6, -1] + NO_INTEGERS:
            self.refused(InvalidEnd, wrong, own_row, FIVE, text, wrong, 2)
            self.refused(InvalidEnd, wrong, own_row, FIVE, text, 2, wrong)
            self.refused(InvalidEnd, wrong, own_row, FIVE, (), wrong, -7)
            self.refused(InvalidEnd, wrong, own_row, FIVE, (), 1, wrong)
        for u, w in [(1, 3), (3, 1), (1, 1), (4, 5)]:
            self.refused_with(NoLine, {"u": u, "w": w}, own_row, FIVE, text, u, w)
            self.refused_with(NoLine, {"u": u, "w": w}, own_row, FIVE, (), u, w)
        for wrong in NO_TUPLES + [(), [text[0]], (("tell", 1, (1,), 3, 0, False),)]:
            self.refused(InvalidText, wrong, own_row, FIVE, wrong, 1, 2)


if __name__ == "__main__":
    unittest.main()
