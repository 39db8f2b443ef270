"""Houses: each keeps one thing on its disk, answers asks, and is ready for deals."""

from ownseen.checks import is_lot
from ownseen.courses import MOST_EVENTS
from ownseen.entries import base_of, folded_to, log_kept, packed
from ownseen.errors import BadLot, BadValue, Out
from ownseen.guards import MOST_HOUSES, TOP_DEAL, want_deal, want_within
from ownseen.journals import meant
from ownseen.kinds import want_kind, with_first
from ownseen.letters import TELLER, is_letter
from ownseen.logs import WATCHED, WAYS, logged, meant_by, want_way
from ownseen.nodes import Node
from ownseen.own import keeps
from ownseen.ways import least_answer, may_tell_ready, tabled


def log_of(disk):
    """The pair of the state to which the house of the disk folded last, and the log of a life that begins now."""
    _, base, records = meant(disk)
    return (folded_to(base), log_kept(records))


def working_in(history, queue):
    """The lot of the deals at work, by the history of a log and the asks that wait."""
    deals = {deal: True for deal in history.opened if deal not in history.readied}
    for wait in queue:
        deals[wait[0]] = True
    return tuple(sorted(deals))


def is_settled(history, state):
    """Whether all orders of the ended deals that hold what is seen leave just this state."""
    paper = keeps(history)
    return bool(paper) and paper.rooms[-1][1] == (state,)


class House(Node):
    """A house; beside what is told, came tells for each deal the words of its events, over all lives.

    Fresh has the events that nobody was told yet.
    Of this life are ground, the kind with its first state; history, that of the log; queue, the asks
    that wait, as triples (deal, ask, hand); askers, from which hand the last ask of a deal came; closed.
    """

    def __init__(self, number, kind, way, table, disk):
        want_within(number, 0, MOST_HOUSES - 1, "number")
        want_kind(kind)
        want_way(way, WAYS)
        self.pairs = tabled(kind, table)
        self.table = tuple(self.pairs)
        self.number = number
        self.kind = kind
        self.way = way
        self.came = {}
        self.fresh = []
        super().__init__(disk)
        self.come_up()

    @property
    def waits(self):
        """The deals of the asks that wait, in their order."""
        return tuple([wait[0] for wait in self.queue])

    @property
    def working(self):
        """The lot of the deals at work."""
        return working_in(self.history, self.queue)

    @property
    def holding(self):
        """The lot of the ready deals."""
        return self.history.readied

    def forget(self):
        """Nothing is in mind."""
        self.start(self.kind, ())

    def start(self, ground, log):
        """Nothing waits, and nothing is closed but what has ended."""
        self.ground = ground
        self.queue = []
        self.askers = {}
        self.closed = {}
        self.keep(log)

    def keep(self, log):
        """Takes this log for the one that was."""
        self.log = tuple(log)
        self.history = logged(self.ground, self.log)
        for deal in self.history.ended:
            self.closed[deal] = True

    def begin(self):
        """A life begins with the log that lasted."""
        ground = with_first(self.kind, folded_to(self.journal.base))
        self.start(ground, log_kept(self.journal.records()))
        self.tell_lasting()

    def cut(self, lands, torn=()):
        """Pulls the plug of its disk."""
        self.pull(lands, torn)

    def fuse(self, many):
        """Puts a fuse into its disk."""
        self.disk.fuse(many)

    def rise(self):
        """Comes up if it is out, and tells whether it did."""
        return self.come_up()

    def tell(self, word, deal, *rest):
        """An event."""
        self.fresh.append((word, deal, *rest))
        self.came.setdefault(deal, []).append(word)

    def has_come(self, word, deal):
        """Whether the deal had such an event."""
        return word in self.came.get(deal, ())

    def tell_off(self, deal):
        """A no is an event if the deal asked here, and has neither a yes nor a no."""
        if self.has_come("ask", deal) and not self.has_come("yes", deal) and not self.has_come("no", deal):
            self.tell("no", deal)

    def tell_lasting(self):
        """The events of a life that begins: what lasted unseen, and a no for all that did not last."""
        for record in self.log:
            if record[0] in ("ready", "yes") and not self.has_come(record[0], record[1]):
                self.tell(record[0], record[1])
        for deal in range(TOP_DEAL + 1):
            if deal not in self.holding:
                self.tell_off(deal)

    def news(self):
        """The events since the last call."""
        told = tuple(self.fresh)
        self.fresh = []
        return told

    def has_room(self):
        """Whether there is room beyond what its ready deals need."""
        left = min(self.journal.room, MOST_EVENTS - len(self.history.events))
        return left >= len(self.holding) + 2

    def done_by(self, deal):
        """The operations that the deal did."""
        return self.history.works.get(deal, ())

    def add_record(self, record):
        """A record joins the log, and is put into the journal."""
        self.journal.put(packed(record))
        self.keep(self.log + (record,))

    def add_surely(self, word, deal):
        """A ready or a yes joins the log, is forced, and is an event."""
        self.add_record((word, deal))
        self.journal.force()
        self.tell(word, deal)

    def answer_letter(self, hand, deal, number):
        """The answer of this number to the deal."""
        return (hand, self.number, "answer", deal, number, self.done_by(deal)[number][1], self.life)

    def try_ask(self, wait):
        """The letters of an ask that is answered, or waits as the last one."""
        deal, ask, hand = wait
        answer = None
        if self.has_room():
            answer = least_answer(self.history, self.way, self.pairs, deal, ask)
        if answer is None:
            self.queue.append(wait)
            return []
        number = len(self.done_by(deal))
        self.add_record(("do", deal, ask, answer))
        self.tell("answer", deal, answer)
        return [self.answer_letter(hand, deal, number)]

    def try_waits(self):
        """The letters of all asks that wait, tried in their order."""
        queue = list(self.queue)
        self.queue = []
        letters = []
        for wait in queue:
            letters.extend(self.try_ask(wait))
        return letters

    def call_off(self, deal):
        """Calls the deal off; the letters of the asks that waited."""
        self.keep([record for record in self.log if record[1] != deal])
        self.queue = [wait for wait in self.queue if wait[0] != deal]
        self.closed[deal] = True
        self.tell_off(deal)
        return self.try_waits()

    def take_ask(self, letter):
        """The letters that an ask brings about."""
        _, hand, _, deal, number, ask, life = letter
        if life != self.life or deal in self.closed:
            return [(hand, self.number, "gone", deal, self.life)]
        many = len(self.done_by(deal))
        if number < many:
            return [self.answer_letter(hand, deal, number)]
        if number > many or deal in self.holding or deal in self.waits:
            return []
        self.tell("ask", deal, ask)
        self.askers[deal] = hand
        return self.try_ask((deal, ask, hand))

    def may_hold(self, deal, many, life):
        """Whether it may be ready for a deal that has so many answers of this life."""
        if life != self.life or deal not in self.working or deal in self.waits:
            return False
        if len(self.done_by(deal)) != many or not self.has_room():
            return False
        return may_tell_ready(self.history, self.way, deal)

    def take_hold(self, letter):
        """The letters that a hold brings about."""
        _, _, _, deal, many, life = letter
        if deal in self.holding or deal in self.history.ended:
            return [self.to_teller("held", deal)]
        if self.may_hold(deal, many, life):
            self.add_surely("ready", deal)
            return [self.to_teller("held", deal)]
        letters = self.call_off(deal) if deal in self.working else []
        return [self.to_teller("barred", deal)] + letters

    def take_yes(self, letter):
        """The letters that a yes brings about."""
        deal = letter[3]
        letters = []
        if deal in self.holding:
            self.add_surely("yes", deal)
            letters = self.try_waits()
        return [self.to_teller("done", deal)] + letters

    def take_no(self, letter):
        """The letters that a no brings about."""
        deal = letter[3]
        if deal in self.holding:
            if letter[1] != TELLER:
                return []
            self.journal.put(packed(("no", deal)))
        elif deal in self.closed:
            return []
        return self.call_off(deal)

    def to_teller(self, word, deal):
        """A letter to the teller."""
        return (TELLER, self.number, word, deal)

    def reply(self, letter):
        """The letters that a letter to this house brings about."""
        if letter[2] == "ask":
            return self.take_ask(letter)
        if letter[2] == "hold":
            return self.take_hold(letter)
        return self.take_yes(letter) if letter[2] == "yes" else self.take_no(letter)

    def take(self, letter):
        """Takes a letter; the letters that it sends."""
        if not is_letter(letter) or letter[0] != self.number:
            raise BadValue("letter")
        if letter[2] == "ask" and letter[5] >= len(self.kind.asks):
            raise BadValue("letter")
        return self.send_for(letter)

    def drop(self, deal):
        """Calls off a deal at work; the letters that it sends."""
        want_deal(deal)
        if deal not in self.working:
            return ()
        hand = self.askers[deal]
        try:
            letters = self.call_off(deal)
        except Out:
            self.blow()
            return ()
        return ((hand, self.number, "gone", deal, self.life), *letters)

    def again(self):
        """Asks the teller once more about each ready deal."""
        return tuple([self.to_teller("what", deal) for deal in self.holding])

    def folding(self):
        """The state to which it may fold, None if it may not."""
        if self.working or self.holding:
            return None
        state = meant_by(self.ground, self.way, self.log)
        if self.way == WATCHED and not is_settled(self.history, state):
            return None
        return state

    def sweep(self):
        """Sweeps its journal, and folds where it may; whether it was done."""
        if not self.up:
            return False
        state = self.folding()
        try:
            if state is None:
                self.journal.sweep(self.journal.base, [packed(record) for record in self.log])
            else:
                self.journal.sweep(base_of(state))
        except Out:
            self.blow()
            return False
        if state is not None:
            self.ground = with_first(self.kind, state)
            self.keep(())
        return True

    def meaning(self, ended):
        """The state that its disk means if these of its ready deals are ended, too."""
        if not is_lot(ended, TOP_DEAL + 1):
            raise BadLot("ended")
        state, log = log_of(self.disk)
        over = [record[1] for record in log if record[0] == "yes"]
        readied = [record[1] for record in log if record[0] == "ready" and record[1] not in over]
        yeses = [("yes", deal) for deal in ended if deal in readied]
        return meant_by(with_first(self.kind, state), self.way, [*log, *yeses])
