"""Houses and tellers as the document's words tell them, each on a plain disk; nothing is shared with the package.

Their journals hold words where the package has numbers of its own: only what is told from outside is compared.
"""

from ownseen.kinds import Kind

from tests.helper import plain_may_answer, plain_may_ready, plain_rooms, events_of_log, play
from tests.plain_disks import PlainJournal, plain_meaning


class Fallen(Exception):
    """The plug is out."""


class PlainNode:
    """What a house and a teller have in common: a disk, a journal, lives."""

    def __init__(self, disk):
        self.disk, self.journal, self.up, self.was_out = disk, None, False, False
        self.life = plain_meaning(disk.kept())[0]
        self.forget()
        self.rise()

    def do(self, deeds):
        for deed in deeds:
            if getattr(self.disk, deed[0])(*deed[1:]) == "out":
                raise Fallen()

    def safely(self, function, *given):
        """What the deed sends; nothing if the plug goes out in it."""
        if not self.up:
            return ()
        try:
            return tuple(function(*given))
        except Fallen:
            self.was_out, self.up = True, False
            self.forget()
            return ()

    def cut(self, lands, torn=()):
        self.disk.cut(lands, torn)
        self.was_out, self.up = False, False
        self.forget()

    def fuse(self, many):
        self.disk.fuse(many)

    def rise(self):
        if self.up:
            return False
        if self.was_out:
            self.disk.cut(())
            self.was_out = False
        journal = PlainJournal([self.disk.look(at) for at in range(self.disk.many)])
        try:
            self.do(journal.come_up())
        except Fallen:
            self.was_out = True
            return False
        self.journal, self.up, self.life = journal, True, journal.head[1]
        self.begin()
        return True


def lasting_log(records):
    """The records of deals that have a ready and no no."""
    words = lambda deal: [record[0] for record in records if record[1] == deal]
    return [record for record in records if "ready" in words(record[1]) and "no" not in words(record[1])]


def plain_meant(kind, way, log):
    """The state to which what the ended deals did leads."""
    ended = [record[1] for record in log if record[0] == "yes"]
    dos = [record for record in log if record[0] == "do"]
    if way == "in place":
        return play(kind, kind.first, [record[2:] for record in dos if record[1] in ended])
    return play(kind, kind.first, [record[2:] for deal in ended for record in dos if record[1] == deal])


class PlainHouse(PlainNode):
    """A house; events are all that ever were, told is how many of them were asked for."""

    def __init__(self, number, kind, way, table, disk):
        self.number, self.kind, self.way, self.table = number, kind, way, table
        self.events, self.told = [], 0
        super().__init__(disk)

    def forget(self):
        self.log, self.waiting, self.over, self.last_asks = [], [], set(), {}

    def ground(self, base):
        """The kind with the first state of a base."""
        first = self.kind.first if base == 0 else base - 100
        return Kind(self.kind.asks, self.kind.answers, self.kind.states, first, self.kind.rows)

    def begin(self):
        self.log = lasting_log(self.journal.rows)
        for record in self.log:
            if record[0] != "do" and tuple(record) not in self.events:
                self.events.append(tuple(record))
        for deal in range(12):
            self.over |= {deal} if ("yes", deal) in self.log else set()
            if deal not in self.holding():
                self.no_event(deal)

    def no_event(self, deal):
        words = [event[0] for event in self.events if event[1] == deal]
        if "ask" in words and "yes" not in words and "no" not in words:
            self.events.append(("no", deal))

    def news(self):
        told, self.told = tuple(self.events[self.told:]), len(self.events)
        return told

    def holding(self):
        return tuple(deal for deal in range(12) if ("ready", deal) in self.log and ("yes", deal) not in self.log)

    def waits(self):
        return tuple(row[0] for row in self.waiting)

    def working(self):
        known = {record[1] for record in self.log} | set(self.waits())
        return tuple(deal for deal in sorted(known) if ("ready", deal) not in self.log)

    def dos(self, deal):
        return [record for record in self.log if record[:2] == ("do", deal)]

    def room(self):
        events = len(events_of_log(self.log))
        return min(self.journal.room - len(self.journal.rows), 120 - events) - len(self.holding()) >= 2

    def put(self, record):
        self.do(self.journal.put(record))

    def try_one(self, row):
        deal, ask, hand = row
        if self.room():
            kind = self.ground(self.journal.head[4])
            for answer in range(len(kind.answers)):
                if plain_may_answer(kind, self.way, self.table, self.log, deal, (ask, answer)):
                    number = len(self.dos(deal))
                    self.put(("do", deal, ask, answer))
                    self.log.append(("do", deal, ask, answer))
                    self.events.append(("answer", deal, answer))
                    return [(hand, self.number, "answer", deal, number, answer, self.life)]
        self.waiting.append(row)
        return []

    def try_all(self):
        rows, self.waiting, letters = self.waiting, [], []
        for row in rows:
            letters += self.try_one(row)
        return letters

    def off(self, deal):
        self.log = [record for record in self.log if record[1] != deal]
        self.waiting = [row for row in self.waiting if row[0] != deal]
        self.over.add(deal)
        self.no_event(deal)
        return self.try_all()

    def take(self, letter):
        return self.safely(getattr(self, "take_" + letter[2]), *letter[:2], *letter[3:])

    def take_ask(self, to, hand, deal, number, ask, life):
        done = self.dos(deal)
        if life != self.life or deal in self.over:
            return [(hand, to, "gone", deal, self.life)]
        if number < len(done):
            return [(hand, to, "answer", deal, number, done[number][3], self.life)]
        if deal in self.holding() or deal in self.waits() or number > len(done):
            return []
        self.events.append(("ask", deal, ask))
        self.last_asks[deal] = hand
        return self.try_one((deal, ask, hand))

    def take_hold(self, to, sender, deal, many, life):
        if ("ready", deal) in self.log:
            return [(4, to, "held", deal)]
        fine = life == self.life and deal in self.working() and deal not in self.waits() and len(self.dos(deal)) == many
        if fine and self.room() and plain_may_ready(self.ground(self.journal.head[4]), self.way, self.log, deal):
            self.put(("ready", deal))
            self.do([("flush",)])
            self.log.append(("ready", deal))
            self.events.append(("ready", deal))
            return [(4, to, "held", deal)]
        return [(4, to, "barred", deal)] + (self.off(deal) if deal in self.working() else [])

    def take_yes(self, to, sender, deal):
        letters = []
        if deal in self.holding():
            self.put(("yes", deal))
            self.do([("flush",)])
            self.log.append(("yes", deal))
            self.events.append(("yes", deal))
            self.over.add(deal)
            letters = self.try_all()
        return [(4, to, "done", deal)] + letters

    def take_no(self, to, sender, deal):
        if deal in self.holding():
            if sender != 4:
                return []
            self.put(("no", deal))
            return self.off(deal)
        return [] if deal in self.over else self.off(deal)

    def drop(self, deal):
        if deal not in self.working():
            return ()
        hand = self.last_asks[deal]
        return self.safely(lambda: [(hand, self.number, "gone", deal, self.life)] + self.off(deal))

    def again(self):
        return tuple((4, self.number, "what", deal) for deal in self.holding())

    def fold(self):
        """The state to which it may fold, None if it may not."""
        if self.working() or self.holding():
            return None
        kind = self.ground(self.journal.head[4])
        state = plain_meant(kind, self.way, self.log)
        if self.way == "watched" and plain_rooms(kind, events_of_log(self.log))[-1][1] != (state,):
            return None
        return state

    def sweep(self):
        if not self.up:
            return False
        state = self.fold()
        def swept():
            if state is None:
                self.do(self.journal.sweep(self.journal.head[4], self.log))
            else:
                self.do(self.journal.sweep(100 + state, []))
                self.log = []
            return [True]
        return self.safely(swept) == (True,)

    def lying(self):
        """The state to which it folded last, and the log, as they lie."""
        _, base, records = plain_meaning(self.disk.kept())
        return (None if base == 0 else base - 100, tuple(lasting_log(records)))

    def meaning(self, ended):
        state, log = self.lying()
        kind = self.ground(0 if state is None else 100 + state)
        readied = [deal for deal in ended if ("ready", deal) in log and ("yes", deal) not in log]
        return plain_meant(kind, self.way, list(log) + [("yes", deal) for deal in readied])


class PlainTeller(PlainNode):
    """A teller."""

    def forget(self):
        self.rounds, self.verdicts, self.dones = {}, {}, set()

    def begin(self):
        for _, deal, houses in self.journal.rows:
            self.verdicts[deal] = houses

    def asking(self):
        return tuple(sorted(self.rounds))

    def holds(self, deal):
        hand, rows, held = self.rounds[deal]
        return [(house, 4, "hold", deal, many, life) for house, many, life in rows if house not in held]

    def no(self, deal):
        hand, rows, _ = self.rounds.pop(deal)
        self.verdicts[deal] = None
        return [(row[0], 4, "no", deal) for row in rows] + [(hand, 4, "told", deal, 0, self.life)]

    def yes(self, deal):
        if self.journal.room == len(self.journal.rows):
            return self.no(deal)
        houses = tuple(row[0] for row in self.rounds[deal][1])
        self.do(self.journal.put(("yes", deal, houses)) + [("flush",)])
        hand = self.rounds.pop(deal)[0]
        self.verdicts[deal] = houses
        return [(house, 4, "yes", deal) for house in houses] + [(hand, 4, "told", deal, 1, self.life)]

    def take(self, letter):
        return self.safely(getattr(self, "take_" + letter[2]), *letter[1:2], *letter[3:])

    def take_end(self, hand, deal, life, rows):
        if deal in self.rounds:
            return self.holds(deal)
        if deal not in self.verdicts:
            if life == self.life:
                self.rounds[deal] = (hand, [tuple(row) for row in rows], set())
                return self.holds(deal) if rows else self.yes(deal)
            self.verdicts[deal] = None
        return [(hand, 4, "told", deal, 0 if self.verdicts[deal] is None else 1, self.life)]

    def take_held(self, house, deal):
        if deal not in self.rounds:
            return self.take_what(house, deal)
        _, rows, held = self.rounds[deal]
        if house not in [row[0] for row in rows]:
            return []
        held.add(house)
        return self.yes(deal) if len(held) == len(rows) else []

    def take_barred(self, house, deal):
        mine = deal in self.rounds and house in [row[0] for row in self.rounds[deal][1]]
        return self.no(deal) if mine else []

    def take_what(self, house, deal):
        if deal in self.rounds:
            return []
        if self.verdicts.setdefault(deal, None) is None:
            return [(house, 4, "no", deal)]
        return [(house, 4, "yes", deal)]

    def take_done(self, house, deal):
        if house in (self.verdicts.get(deal) or ()):
            self.dones.add((deal, house))
        return []

    def give_up(self, deal):
        return tuple(self.no(deal)) if deal in self.rounds else ()

    def again(self):
        letters = []
        for deal in range(12):
            if deal in self.rounds:
                letters += self.holds(deal)
            elif self.verdicts.get(deal) is not None:
                letters += [(house, 4, "yes", deal) for house in self.verdicts[deal] if (deal, house) not in self.dones]
        return tuple(letters)

    def yeses(self):
        return tuple((deal, houses) for _, deal, houses in plain_meaning(self.disk.kept())[2])
