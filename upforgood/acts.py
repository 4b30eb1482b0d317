"""What an end makes of an event, when it speaks and answers by a paper.

The value of a step goes out from its speaker along all lines beyond which someone
hears. Towards the end that goes on it is passed only when all hearers beside this
way are known to have decided, so that this end knows of all of them as soon as it
has the value and the replies of its own branches. The replies, bare signals or the
answers, come back along all other lines. Nobody waits for replies to a value that
ends the text.
"""

from upforgood.checks import is_between
from upforgood.parts import answer_of, answers_in, due_to, is_end, joined_answers, part_for
from upforgood.talks import Talk
from upforgood.texts import goes_on, is_value

NO_TURN = -1


class Act:
    """An end in a standing, which takes one event.

    A standing is the tuple of my_turn, the step that may be handed to this end or
    NO_TURN; doing, the step that waits for replies here, its value, and the replies
    as tuples of who replied and the number, or () if there is no such step; and the
    states of the talks with all neighbours.
    """

    def __init__(self, role, standing):
        self.role = role
        self.my_turn, self.doing, talks = standing
        self.talks = list(talks)
        self.sends = []
        self.says = []

    def deed(self):
        standing = (self.my_turn, self.doing, tuple(self.talks))
        return (standing, tuple(self.sends), tuple(self.says))

    def handed(self, value):
        if self._is_asked():
            self._answer(value)
        elif self.my_turn != NO_TURN and is_value(self.role.text[self.my_turn], value):
            at = self.my_turn
            self.my_turn = NO_TURN
            self._know(at, value)

    def comes(self, near, kind):
        if near not in self.role.neighbours:
            return
        talk = self._talk(near)
        number = self._number(near, talk)
        if number is None:
            return
        at, teller, many, sizes = number
        if teller == near:
            self._send(near, talk.hear(sizes, kind))
            value = talk.heard(sizes)
            self._keep(near, talk)
            if value is not None:
                # Other programs may send rounds that stand for no value.
                self._told(near, at, min(value, many - 1))
        elif talk.is_telling():
            self._send(near, talk.answered(kind))
            self._keep(near, talk)

    def _told(self, near, at, value):
        if self.role.source(at) == near:
            self._know(at, value)
        else:
            self._reply(at, near, value)

    def _know(self, at, value):
        """Take the value of a step, decide it, and tell it to the branches."""
        step = self.role.text[at]
        informed = self.role.informed(at)
        if self.role.end in informed:
            self.says.append(("decides", due_to(step, informed, value, self.role.end)))
        ends = is_end(step, informed, value)
        for near in self.role.branches(at):
            if ends or near != self.role.forward(at):
                self._tell(near, at, part_for(step, informed, value, self.role.hearers(at, near)))
        self.doing = () if ends or goes_on(step) == 0 else (at, value, ())
        self._go_on()

    def _reply(self, at, who, number):
        """Take a reply to the step at which this end is."""
        if self.doing == () or self.doing[0] != at:
            return
        value, replies = self.doing[1:]
        self.doing = (at, value, tuple(sorted(replies + ((who, number),))))
        self._go_on()

    def _is_asked(self):
        """Whether this end has decided a question and was handed no answer yet."""
        if self.doing == ():
            return False
        at, _, replies = self.doing
        if self.role.text[at][0] != "ask" or self.role.end not in self.role.informed(at):
            return False
        return self.role.end not in [who for who, _ in replies]

    def _answer(self, number):
        at = self.doing[0]
        if is_between(number, 0, answer_of(self.role.text[at], self.role.end) - 1):
            self._reply(at, self.role.end, number)

    def _go_on(self):
        """When all replies are there, tell so, or go on."""
        if self.doing == () or self._is_asked() or self._waits():
            return
        at, value, replies = self.doing
        self.doing = ()
        forward = self.role.forward(at)
        if forward == 0:
            self._end(at, replies)
        elif self.role.text[at][0] == "ask":
            self._tell(forward, at, joined_answers(self.role.text[at], self._answers(at, replies)))
        else:
            hearers = [] if forward == self.role.source(at) else self.role.hearers(at, forward)
            self._tell(forward, at, part_for(self.role.text[at], self.role.informed(at), value, hearers))

    def _waits(self):
        at, _, replies = self.doing
        replied = [who for who, _ in replies]
        branches = [near for near in self.role.branches(at) if near != self.role.forward(at)]
        return not all([near in replied for near in branches])

    def _end(self, at, replies):
        """This end goes on from the step, or asked it."""
        if self.role.text[at][0] == "ask":
            answers = tuple([answer for _, answer in sorted(self._answers(at, replies))])
            self.says.append(("answers", answers))
        else:
            self.says.append(("done",))
        if at + 1 < len(self.role.text):
            self.my_turn = at + 1

    def _answers(self, at, replies):
        """The tuples (hearer, answer) of all that was replied to a question."""
        answers = []
        for who, number in replies:
            if who == self.role.end:
                answers.append((who, number))
            else:
                answers.extend(answers_in(self.role.text[at], self.role.hearers(at, who), number))
        return answers

    def _tell(self, near, at, value):
        """Begin to tell a number of a step, unless it is not this one's turn on the line."""
        talk = self._talk(near)
        number = self._number(near, talk)
        if number is None or number[:2] != (at, self.role.end):
            return
        self._send(near, talk.tell(number[3], value))
        self._keep(near, talk)

    def _talk(self, near):
        return Talk(self.role.specs[near], self.talks[self.role.neighbours.index(near)])

    def _keep(self, near, talk):
        self.talks[self.role.neighbours.index(near)] = talk.state()

    def _number(self, near, talk):
        """The number that is in hand on a line, or None behind the last one."""
        numbers = self.role.numbers[near]
        return numbers[talk.told] if talk.told < len(numbers) else None

    def _send(self, near, kinds):
        self.sends.extend([(near, kind) for kind in kinds])
