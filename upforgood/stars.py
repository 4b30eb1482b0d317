"""One among many: points 241 to 243.

Who tells goes on with a further round only when all who hear have answered the one
ahead of it, and who hears answers each round but the last one.
"""

from upforgood.checks import are_between, is_between, is_integer, is_list
from upforgood.errors import Handed, InvalidAnswers, InvalidEnd, InvalidKinds, InvalidValue, NoLine, NotSent
from upforgood.tellings import Telling, greatest_by, sizes_by

HUB = 0
MOST_KINDS = 8
MOST_OTHERS = 4


def gathered(kinds, answers):
    if not _are_numbers(kinds, 1):
        raise InvalidKinds(kinds)
    if not is_between(answers, 0, MOST_KINDS):
        raise InvalidAnswers(answers)
    return tuple([greatest_by(many, answers + 2) for many in kinds])


def spread(kinds, answers):
    if not is_between(kinds, 1, MOST_KINDS):
        raise InvalidKinds(kinds)
    if not _are_numbers(answers, 0):
        raise InvalidAnswers(answers)
    return greatest_by(kinds, min(answers) + 2)


class Gather:
    """Senders that all tell the hub a value each."""

    def __init__(self, kinds, answers):
        self._numbers = gathered(kinds, answers)
        tellings = [Telling(many, sizes_by(many, answers + 2), 0) for many in kinds]
        self._senders = [Teller(telling) for telling in tellings]
        self._hearers = [Hearer(telling) for telling in tellings]
        self._most = max([telling.many() for telling in tellings])
        self._answered = 0
        self._post = Post(len(kinds))
        self._decided = []

    def hand(self, end, value):
        if not is_between(end, 1, len(self._senders)):
            raise InvalidEnd(end)
        sender = self._senders[end - 1]
        _check_handing(sender, end, value, self._numbers[end - 1])
        self._post.send(end, HUB, sender.handed(value))
        return []

    def give(self, u, w, kind):
        if not self._post.give(u, w, kind):
            return []
        if u == HUB:
            self._post.send(w, HUB, self._senders[w - 1].next_round())
            return []
        hearer = self._hearers[u - 1]
        hearer.comes(kind)
        self._answer()
        found = _heard_whole(hearer, u)
        self._decided.extend(found)
        return found

    def under_way(self):
        return self._post.under_way()

    def calm(self):
        return _calmed(self)

    def decided(self):
        return sorted(self._decided)

    def _answer(self):
        """Send a kind to all when the round in hand has come from each of them that has so many."""
        awaited = self._answered + 1
        if awaited == self._most or not all([hearer.has_heard(awaited) for hearer in self._hearers]):
            return
        self._answered += 1
        for end in range(1, len(self._senders) + 1):
            self._post.send(HUB, end, (awaited,))


class Spread:
    """A hub that tells a value to all hearers."""

    def __init__(self, kinds, answers):
        self._number = spread(kinds, answers)
        telling = Telling(kinds, sizes_by(kinds, min(answers) + 2), 0)
        self._many = telling.many()
        self._speaker = Teller(telling)
        self._hearers = [Hearer(telling) for _ in answers]
        self._answered = [0 for _ in answers]
        self._post = Post(len(answers))
        self._decided = []

    def hand(self, value):
        _check_handing(self._speaker, HUB, value, self._number)
        self._tell(self._speaker.handed(value))
        return []

    def give(self, u, w, kind):
        if not self._post.give(u, w, kind):
            return []
        if w == HUB:
            self._answered[u - 1] += 1
            if min(self._answered) == self._speaker.gone:
                self._tell(self._speaker.next_round())
            return []
        hearer = self._hearers[w - 1]
        before = hearer.many_heard()
        hearer.comes(kind)
        heard = hearer.many_heard()
        if before < heard < self._many:
            self._post.send(w, HUB, (heard,))
        found = _heard_whole(hearer, w)
        self._decided.extend(found)
        return found

    def under_way(self):
        return self._post.under_way()

    def calm(self):
        return _calmed(self)

    def decided(self):
        return sorted(self._decided)

    def _tell(self, kinds):
        for end in range(1, len(self._hearers) + 1):
            self._post.send(HUB, end, kinds)


class Teller:
    """An end that tells a value, a further round each time that it may."""

    def __init__(self, telling):
        self.telling = telling
        self.rounds = []
        self.gone = 0

    def handed(self, value):
        """The first round."""
        self.rounds = self.telling.rounds(value)
        return self.next_round()

    def next_round(self):
        if self.gone == len(self.rounds):
            return ()
        self.gone += 1
        return self.rounds[self.gone - 1]


class Hearer:
    """An end that hears a value."""

    def __init__(self, telling):
        self.telling = telling
        self.came = []

    def comes(self, kind):
        self.came.append(kind)

    def many_heard(self):
        return self.telling.many_whole(len(self.came))

    def has_heard(self, rounds):
        """Whether so many rounds have come, or all where there are not so many."""
        return self.many_heard() >= min(rounds, self.telling.many())


class Post:
    """What the ends of a star have sent, and what of it has come."""

    def __init__(self, others):
        self.others = others
        self.sent = []
        self.came = []

    def send(self, u, w, kinds):
        self.sent.extend([(u, w, kind) for kind in kinds])

    def give(self, u, w, kind):
        """Make what u has sent come to w, and tell whether it is new there."""
        if not is_between(u, 0, self.others) or not is_between(w, 0, self.others) or (u == HUB) == (w == HUB):
            raise NoLine(u, w)
        if not is_integer(kind) or (u, w, kind) not in self.sent:
            raise NotSent(kind)
        if (u, w, kind) in self.came:
            return False
        self.came.append((u, w, kind))
        return True

    def under_way(self):
        return sorted([given for given in self.sent if given not in self.came])


def _heard_whole(hearer, end):
    """The value told between an end and the hub, if its last round has come; nothing comes behind it."""
    if not hearer.has_heard(hearer.telling.many()):
        return []
    return [(end, hearer.telling.value(hearer.came))]


def _calmed(star):
    given = []
    under_way = star.under_way()
    while under_way != []:
        u, w, kind = under_way[0]
        star.give(u, w, kind)
        given.append((u, w, kind))
        under_way = star.under_way()
    return given


def _check_handing(teller, end, value, number):
    if teller.rounds != []:
        raise Handed(end)
    if not is_between(value, 0, number - 1):
        raise InvalidValue(value)


def _are_numbers(value, low):
    return is_list(value) and is_between(len(value), 1, MOST_OTHERS) and are_between(value, low, MOST_KINDS)
