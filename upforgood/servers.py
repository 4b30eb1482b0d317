"""A service at work: points 152 and 153."""

from upforgood.checks import is_between
from upforgood.errors import InvalidNumber, NoService, NoTurn
from upforgood.lines import MOST_LETTERS
from upforgood.nets import Net
from upforgood.service import Serving, check_times, check_value, most_served, raised_row
from upforgood.talks import Talk, new_state
from upforgood.trees import check_end
from upforgood.wires import raise_plan

SIGNAL = (1,)


class Service:
    """Messages that are handed to any ends, one behind the other."""

    def __init__(self, tree, value, times):
        check_value(value)
        check_times(times)
        most = most_served(tree, value, times)
        if most < times:
            raise NoService(most)
        self._tree = tree
        self._value = value
        self._times = times
        self._net = Net(tree)
        serving = Serving(value, times, MOST_LETTERS)
        self._servers = [Server(tree, serving, times, end) for end in range(1, tree.ends + 1)]
        self._decided = [[] for _ in self._servers]
        self._handed = 0
        self._done = 0

    def free(self):
        return self._handed == self._done and self._done < self._times

    def hand(self, end, number):
        if not self.free():
            raise NoTurn()
        check_end(self._tree, end)
        if not is_between(number, 0, self._value - 1):
            raise InvalidNumber(number)
        self._handed += 1
        return self._carry_out(end, self._servers[end - 1].handed(number))

    def give(self, u, w, kind):
        if not self._net.give(u, w, kind):
            return []
        return self._carry_out(w, self._servers[w - 1].comes(u, kind))

    def under_way(self):
        return self._net.under_way()

    def calm(self):
        given = []
        under_way = self.under_way()
        while under_way != []:
            u, w, kind = under_way[0]
            self.give(u, w, kind)
            given.append(("give", u, w, kind))
            under_way = self.under_way()
        return given

    def decided(self, end):
        check_end(self._tree, end)
        return list(self._decided[end - 1])

    def count(self):
        return self._done

    def left(self, u, w):
        return self._net.line(u, w).left()

    def _carry_out(self, end, deed):
        """Send what an end sends, and tell what it says."""
        sends, says = deed
        for near, kind in sends:
            self._net.send(end, near, kind)
        for say in says:
            if say[0] == "decides":
                self._decided[end - 1].append((self._done, say[1]))
            else:
                self._done += 1
        return [(end, say) for say in says]


class Server:
    """One end of a service. What it does hangs alone on what it is handed and what comes to it."""

    def __init__(self, tree, serving, times, end):
        self.serving = serving
        self.times = times
        self.neighbours = tree.neighbours(end)
        self.specs = {near: tree.spec(end, near) for near in self.neighbours}
        self.talks = {}
        for near in tree.neighbours(end):
            spec = tree.spec(end, near)
            self.talks[near] = Talk(spec, new_state(spec, end < near))
        self.source = 0
        self.awaited = []

    def handed(self, number):
        """The sends and the says by which a message begins."""
        return self._pass_on(0, number)

    def comes(self, near, kind):
        """The sends and the says behind what is new here."""
        talk = self.talks[near]
        if talk.is_telling():
            return (_sends(near, talk.answered(kind)), [])
        is_reply = near in self.awaited
        sizes = SIGNAL if is_reply else self._sizes(near, talk.theirs, talk.mine)
        answers = _sends(near, talk.hear(sizes, kind))
        number = talk.heard(sizes)
        if number is None:
            return (answers, [])
        if is_reply:
            self.awaited.remove(near)
            return self._replied()
        sends, says = self._pass_on(near, number)
        return (sends, [("decides", number)] + says)

    def _pass_on(self, source, number):
        """Tell a message to all neighbours but the one from which it comes."""
        self.source = source
        self.awaited = [near for near in self.neighbours if near != source]
        sends = []
        for near in self.neighbours:
            if near != source:
                talk = self.talks[near]
                sizes = self._sizes(near, talk.mine, talk.theirs)
                sends.extend(_sends(near, talk.tell(sizes, number)))
        behind, says = self._replied()
        return (sends + behind, says)

    def _replied(self):
        """When all others are known to have decided, say or signal so."""
        if self.awaited != []:
            return ([], [])
        if self.source == 0:
            return ([], [("done",)])
        return (_sends(self.source, self.talks[self.source].tell(SIGNAL, 0)), [])

    def _sizes(self, near, tellers, hearers):
        """The sizes by which the message in hand is told over a line, so that all others can follow."""
        times = self.times - self.talks[near].told // 2
        if self.specs[near][0] == "wires":
            return raise_plan(raised_row(self.serving.value, times), len(tellers))[0]
        return self.serving.sizes(times, len(tellers), len(hearers))


def _sends(near, kinds):
    return [(near, kind) for kind in kinds]
