"""Houses: each keeps one thing on its disk, answers asks, and is ready for deals."""

from ownseen.checks import is_lot
from ownseen.courses import MOST_EVENTS
from ownseen.disks import want_disk
from ownseen.entries import base_of, folded_to, log_kept, packed
from ownseen.errors import BadLot, BadValue, Out
from ownseen.guards import TOP_DEAL, want_deal, want_within
from ownseen.journals import Journal, meant
from ownseen.kinds import want_kind
from ownseen.ledgers import Ledger, is_waiting, with_first, working_in
from ownseen.letters import MOST_HOUSES, TELLER, is_letter
from ownseen.logs import WATCHED, WAYS, meant_by, want_way
from ownseen.own import keeps
from ownseen.ways import least_answer, may_tell_ready, tabled


def log_of(disk):
    """The pair of the state to which the house of the disk folded last, and the log of a life that begins now."""
    _, base, records = meant(disk)
    return (folded_to(base), log_kept(records))


def folding_of(ledger, way):
    """The state to which a house may fold, None if it may not."""
    if working_in(ledger) or ledger.history.readied:
        return None
    state = meant_by(ledger.kind, way, ledger.lines)
    if way == WATCHED and state is not None:
        paper = keeps(ledger.history)
        if not paper or paper.rooms[-1][1] != (state,):
            return None
    return state


class House:
    """A house; beside what is told, came tells for each deal the words of its events, over all lives.

    Fresh has the events that nobody was told yet; blown is whether Out was raised since the last cut.
    """

    def __init__(self, number, kind, way, table, disk):
        want_within(number, 0, MOST_HOUSES - 1, "number")
        want_kind(kind)
        want_way(way, WAYS)
        pairs = tabled(kind, table)
        want_disk(disk)
        self.number = number
        self.kind = kind
        self.way = way
        self.table = tuple(pairs)
        self.pairs = pairs
        self.disk = disk
        self.life = meant(disk)[0]
        self.came = {}
        self.fresh = []
        self.blown = False
        self.journal = None
        self.fall()
        self.rise()

    @property
    def log(self):
        """The records of the deals that were not called off."""
        return self.ledger.lines

    @property
    def waits(self):
        """The deals of the asks that wait, in their order."""
        return tuple([wait[0] for wait in self.ledger.queue])

    @property
    def working(self):
        """The lot of the deals at work."""
        return working_in(self.ledger)

    @property
    def holding(self):
        """The lot of the ready deals."""
        return self.ledger.history.readied

    def fall(self):
        """The plug is out: all that was in mind is lost."""
        self.up = False
        self.ledger = Ledger(self.kind, ())

    def blow(self):
        """The plug is out as Out was raised."""
        self.blown = True
        self.fall()

    def cut(self, lands, torn=()):
        """Pulls the plug of its disk."""
        self.disk.cut(lands, torn)
        self.blown = False
        self.fall()

    def fuse(self, many):
        """Puts a fuse into its disk."""
        self.disk.fuse(many)

    def rise(self):
        """Comes up if it is out, and tells whether it did."""
        if self.up:
            return False
        if self.blown:
            self.cut(())
        try:
            self.journal = Journal(self.disk)
        except Out:
            self.blow()
            return False
        self.up = True
        self.life = self.journal.life
        kind = with_first(self.kind, folded_to(self.journal.base))
        self.ledger = Ledger(kind, log_kept(self.journal.records()))
        self.tell_lasting()
        return True

    def tell(self, word, deal, *rest):
        """An event."""
        self.fresh.append((word, deal, *rest))
        self.came.setdefault(deal, []).append(word)

    def has_come(self, word, deal):
        """Whether the deal had such an event."""
        return word in self.came.get(deal, ())

    def tell_off(self, deal):
        """A no is an event if the deal asked here, and has neither a yes nor a no."""
        if self.has_come("ask", deal) and not self.has_come("yes", deal) and not self.has_come("no", deal):
            self.tell("no", deal)

    def tell_lasting(self):
        """The events of a life that begins: what lasted unseen, and a no for all that did not last."""
        for record in self.log:
            if record[0] in ("ready", "yes") and not self.has_come(record[0], record[1]):
                self.tell(record[0], record[1])
        for deal in range(TOP_DEAL + 1):
            if deal not in self.holding:
                self.tell_off(deal)

    def news(self):
        """The events since the last call."""
        told = tuple(self.fresh)
        self.fresh = []
        return told

    def has_room(self):
        """Whether there is room beyond what its ready deals need."""
        history = self.ledger.history
        left = min(self.journal.room, MOST_EVENTS - len(history.events))
        return left >= len(history.readied) + 2

    def join(self, record):
        """A record joins the log, and is put into the journal."""
        self.journal.put(packed(record))
        self.ledger.join(record)

    def join_surely(self, word, deal):
        """A ready or a yes joins the log, is forced, and is an event."""
        self.join((word, deal))
        self.journal.force()
        self.tell(word, deal)

    def answer_letter(self, hand, deal, number):
        """The answer of this number to the deal."""
        return (hand, self.number, "answer", deal, number, self.ledger.done_by(deal)[number][1], self.life)

    def try_ask(self, wait):
        """The letters of an ask that is answered, or waits as the last one."""
        deal, ask, hand = wait
        history = self.ledger.history
        answer = least_answer(history, self.way, self.pairs, deal, ask) if self.has_room() else None
        if answer is None:
            self.ledger.queue.append(wait)
            return []
        number = len(self.ledger.done_by(deal))
        self.join(("do", deal, ask, answer))
        self.tell("answer", deal, answer)
        return [self.answer_letter(hand, deal, number)]

    def try_waits(self):
        """The letters of all asks that wait, tried in their order."""
        queue = self.ledger.queue
        self.ledger.queue = []
        letters = []
        for wait in queue:
            letters.extend(self.try_ask(wait))
        return letters

    def call_off(self, deal):
        """Calls the deal off; the letters of the asks that waited."""
        self.ledger.shut(deal)
        self.tell_off(deal)
        return self.try_waits()

    def take_ask(self, letter):
        """The letters that an ask brings about."""
        _, hand, _, deal, number, ask, life = letter
        if life != self.life or deal in self.ledger.closed:
            return [(hand, self.number, "gone", deal, self.life)]
        many = len(self.ledger.done_by(deal))
        if number < many:
            return [self.answer_letter(hand, deal, number)]
        if number > many or deal in self.holding or is_waiting(self.ledger, deal):
            return []
        self.tell("ask", deal, ask)
        self.ledger.askers[deal] = hand
        return self.try_ask((deal, ask, hand))

    def may_hold(self, deal, many, life):
        """Whether it may be ready for a deal that has so many answers of this life."""
        ledger = self.ledger
        if life != self.life or deal not in self.working or is_waiting(ledger, deal):
            return False
        if len(ledger.done_by(deal)) != many or not self.has_room():
            return False
        return may_tell_ready(ledger.history, self.way, deal)

    def take_hold(self, letter):
        """The letters that a hold brings about."""
        _, _, _, deal, many, life = letter
        history = self.ledger.history
        if deal in history.readied or deal in history.ended:
            return [self.to_teller("held", deal)]
        if self.may_hold(deal, many, life):
            self.join_surely("ready", deal)
            return [self.to_teller("held", deal)]
        letters = self.call_off(deal) if deal in self.working else []
        return [self.to_teller("barred", deal)] + letters

    def take_yes(self, letter):
        """The letters that a yes brings about."""
        deal = letter[3]
        letters = []
        if deal in self.holding:
            self.join_surely("yes", deal)
            letters = self.try_waits()
        return [self.to_teller("done", deal)] + letters

    def take_no(self, letter):
        """The letters that a no brings about."""
        deal = letter[3]
        if deal in self.holding:
            if letter[1] != TELLER:
                return []
            self.journal.put(packed(("no", deal)))
        elif deal in self.ledger.closed:
            return []
        return self.call_off(deal)

    def to_teller(self, word, deal):
        """A letter to the teller."""
        return (TELLER, self.number, word, deal)

    def reply(self, letter):
        """The letters that a letter to this house brings about."""
        if letter[2] == "ask":
            return self.take_ask(letter)
        if letter[2] == "hold":
            return self.take_hold(letter)
        return self.take_yes(letter) if letter[2] == "yes" else self.take_no(letter)

    def take(self, letter):
        """Takes a letter; the letters that it sends."""
        if not is_letter(letter) or letter[0] != self.number:
            raise BadValue("letter")
        if letter[2] == "ask" and letter[5] >= len(self.kind.asks):
            raise BadValue("letter")
        if not self.up:
            return ()
        try:
            return tuple(self.reply(letter))
        except Out:
            self.blow()
            return ()

    def drop(self, deal):
        """Calls off a deal at work; the letters that it sends."""
        want_deal(deal)
        if deal not in self.working:
            return ()
        hand = self.ledger.askers[deal]
        try:
            letters = self.call_off(deal)
        except Out:
            self.blow()
            return ()
        return ((hand, self.number, "gone", deal, self.life), *letters)

    def again(self):
        """Asks the teller once more about each ready deal."""
        return tuple([self.to_teller("what", deal) for deal in self.holding])

    def sweep(self):
        """Sweeps its journal, and folds where it may; whether it was done."""
        if not self.up:
            return False
        state = folding_of(self.ledger, self.way)
        try:
            if state is None:
                self.journal.sweep(self.journal.base, [packed(record) for record in self.log])
            else:
                self.journal.sweep(base_of(state))
        except Out:
            self.blow()
            return False
        if state is not None:
            self.ledger.fold(state)
        return True

    def meaning(self, ended):
        """The state that its disk means if these of its ready deals are ended, too."""
        if not is_lot(ended, TOP_DEAL + 1):
            raise BadLot("ended")
        state, log = log_of(self.disk)
        over = [record[1] for record in log if record[0] == "yes"]
        readied = [record[1] for record in log if record[0] == "ready" and record[1] not in over]
        yeses = [("yes", deal) for deal in ended if deal in readied]
        return meant_by(with_first(self.kind, state), self.way, [*log, *yeses])
