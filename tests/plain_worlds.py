"""Worlds as the document's words tell them, over plain houses and a plain teller; programs and scripts made in many ways."""

from ownseen.makers import bag, chest, counter, line, pile, purse, shelf, tickets
from ownseen.programs import Program

from tests.helper import plain_table
from tests.plain_disks import PlainDisk
from tests.plain_nodes import PlainHouse, PlainTeller

WORLD_KINDS = (purse(3, 2), tickets(8), counter(3), chest(2), shelf(3, 1), line(3, 2), pile(2, 2), bag(3, 2))
WAYS = ("in place", "laid by", "watched")
TABLES = {}


def enough_table(kind, way):
    """A table that is enough, looked for by the test itself; empty for a house that watches."""
    if way == "watched":
        return ()
    key = (str(kind), way)
    if key not in TABLES:
        TABLES[key] = plain_table(kind, way)
    return TABLES[key]


def some_program(dice, kinds=WORLD_KINDS, ways=WAYS, houses=4, deals=8, steps=6, enough=1.0):
    """A program over houses of all ways; their tables are enough, or lack a pair now and then."""
    told = []
    for _ in range(dice.randint(1, houses)):
        kind, way = dice.choice(kinds), dice.choice(ways)
        table = enough_table(kind, way)
        if dice.random() > enough:
            table = [pair for pair in table if dice.random() < 0.6]
        told.append((kind, way, table))
    hands = [[] for _ in range(dice.randint(1, 4))]
    for _ in range(dice.randint(0 if dice.random() < 0.05 else 1, deals)):
        some = [dice.randrange(len(told)) for _ in range(dice.randint(1, steps))]
        dice.choice(hands).append([(house, dice.randrange(len(told[house][0].asks))) for house in some])
    return Program(told, hands)


def some_step(dice, mishaps):
    """A step of a script: mostly something sent and brought."""
    chance = dice.random()
    if chance < 0.3:
        return ("send", dice.randrange(4))
    if chance > mishaps:
        return ("bring", dice.choice((0, 0, 0, dice.randrange(60))))
    word = dice.choice(("lose", "twice", "cut", "fuse", "rise", "rise", "rise", "drop", "again", "again", "sweep", "sweep", "quit"))
    if word in ("lose", "twice"):
        return (word, dice.randrange(60))
    if word == "cut":
        return (word, dice.randrange(5), dice.choice((0, 1, 2, 3, 6, 10 ** 50)))
    if word == "fuse":
        return (word, dice.randrange(5), dice.randrange(7))
    if word in ("rise", "again"):
        return (word, dice.randrange(5))
    if word == "drop":
        return (word, dice.randrange(4), dice.randrange(8))
    return (word, dice.randrange(4 if word == "sweep" else 8))


def live_step(dice, plain):
    """A step that does something in the plain world, if there is one of the kind that is drawn."""
    houses = [house for house in plain.houses if house.up]
    steps = {
        "drop": [("drop", house.number, deal) for house in houses for deal in house.working()],
        "quit": [("quit", deal) for deal in plain.teller.asking()],
        "again": [("again", house.number) for house in houses if house.holding()] + [("again", 4)] * (plain.teller.again() != ()),
        "rise": [("rise", number) for number in plain.out()],
        "send": [("send", number) for number, hand in enumerate(plain.hands) if hand.left],
    }
    word = dice.choice(("drop", "quit", "again", "rise", "rise", "send", "send", "send"))
    return dice.choice(steps[word] or [("sweep", dice.randrange(4))])


def some_script(dice, most=400):
    """A script of many steps or few, with mishaps often, now and then, or never."""
    mishaps = dice.choice((0.3, 0.4, 0.5, 0.75))
    return [some_step(dice, mishaps) for _ in range(dice.choice((most // 16, most // 4, most // 2, most)))]


class PlainHand:
    """A hand, by what it was sent and what it sent."""

    def __init__(self, node, deals):
        self.node, self.left = node, deals
        self.greatest = {}
        self.answers = {deal: [] for deal, _ in deals}
        self.verdicts = {deal: None for deal, _ in deals}
        self.fresh()

    def fresh(self):
        self.first_lives, self.sent_end = {}, None

    def send(self):
        deal, steps = self.left[0]
        done = len(self.answers[deal])
        if done < len(steps):
            house, ask = steps[done]
            if house not in self.first_lives:
                self.first_lives[house] = self.greatest.get(house, 1)
            number = sum(1 for other, _ in steps[:done] if other == house)
            return (house, self.node, "ask", deal, number, ask, self.first_lives[house])
        if self.sent_end is None:
            rows = tuple(
                (house, sum(1 for other, _ in steps if other == house), self.first_lives[house])
                for house in sorted({house for house, _ in steps})
            )
            self.sent_end = (4, self.node, "end", deal, self.greatest.get(4, 1), rows)
        return self.sent_end

    def take(self, letter):
        """The letters that it sends, and whether it got an answer, or heard yes or no."""
        _, sender, word, deal = letter[:4]
        self.greatest[sender] = max(self.greatest.get(sender, 1), letter[-1])
        if not self.left or self.left[0][0] != deal:
            return [], False
        steps, done = self.left[0][1], len(self.answers[deal])
        if word == "answer":
            if done < len(steps) and letter[1] == steps[done][0]:
                if letter[4] == sum(1 for other, _ in steps[:done] if other == sender):
                    self.answers[deal].append(letter[5])
                    return [], True
            return [], False
        if word == "told":
            if self.sent_end is None:
                return [], False
            self.go_on(deal, letter[4])
            return [], True
        houses = {house for house, _ in steps[:done + 1]}
        if self.sent_end is not None or sender not in houses:
            return [], False
        self.go_on(deal, 0)
        return [(house, self.node, "no", deal) for house in sorted(houses - {sender})], True

    def go_on(self, deal, verdict):
        self.verdicts[deal] = verdict
        self.left = self.left[1:]
        self.fresh()


class PlainWorld:
    """A world; events are those of its weave."""

    def __init__(self, program):
        self.program = program
        self.houses = [PlainHouse(at, *row, PlainDisk(128)) for at, row in enumerate(program.houses)]
        self.nodes = self.houses + [PlainTeller(PlainDisk(128))]
        self.teller, deal, self.hands = self.nodes[-1], 0, []
        for at, deals in enumerate(program.hands):
            self.hands.append(PlainHand(5 + at, list(enumerate(deals, deal))))
            deal += len(deals)
        self.bag, self.events = [], []

    def node(self, number):
        if number == 4:
            return self.teller
        return self.houses[number] if number < len(self.houses) else None

    def put(self, letters):
        for letter in letters:
            if len(self.bag) < 40:
                self.bag.append(letter)

    def watch(self):
        for house in self.houses:
            self.events += [(event[0], house.number) + event[1:] for event in house.news()]

    def bring(self, at):
        letter = self.bag.pop(at % len(self.bag))
        learnt = False
        if letter[0] > 4:
            letters, learnt = self.hands[letter[0] - 5].take(letter)
        else:
            letters = self.node(letter[0]).take(letter)
        self.put(letters)
        self.watch()
        return learnt

    def step(self, told):
        did = self.do(*told)
        self.watch()
        return did

    def do(self, word, at, *more):
        if word == "send":
            if at >= len(self.hands) or not self.hands[at].left:
                return False
            self.put([self.hands[at].send()])
            return True
        if word in ("bring", "lose", "twice"):
            if not self.bag:
                return False
            if word == "bring":
                self.bring(at)
            elif word == "lose":
                del self.bag[at % len(self.bag)]
            else:
                self.put([self.bag[at % len(self.bag)]])
            return True
        if word == "quit":
            letters = self.teller.give_up(at)
            self.put(letters)
            return letters != ()
        node = self.node(at)
        return node is not None and getattr(self, "do_" + word)(node, *more)

    def do_cut(self, node, bits):
        node.cut([k for k in range(node.disk.waiting()) if bits // 2 ** k % 2])
        return True

    def do_fuse(self, node, many):
        if many and node.up:
            node.fuse(many)
        return many > 0 and node.up

    def do_rise(self, node):
        return node.rise()

    def do_again(self, node):
        letters = node.again()
        self.put(letters)
        return letters != ()

    def do_drop(self, node, deal):
        if deal not in node.working():
            return False
        self.put(node.drop(deal))
        return True

    def do_sweep(self, node):
        return node.sweep()

    def open_here(self):
        """The pairs (deal, house) of deals that are open at the house, and the words of their events."""
        told = {}
        for event in self.events:
            told.setdefault((event[2], event[1]), []).append(event[0])
        return {pair: words for pair, words in told.items() if not {"yes", "no"} & set(words)}

    def is_calm(self):
        return all(node.up for node in self.nodes) and not any(hand.left for hand in self.hands) and not self.open_here()

    def calm(self):
        for node in self.nodes:
            node.disk.no_fuse()
        rounds = 0
        while not self.is_calm():
            rounds += 1
            before, learnt = len(self.events), False
            for node in self.nodes:
                node.rise()
                self.watch()
            for at in range(len(self.hands)):
                self.do("send", at)
            for node in self.nodes:
                self.do_again(node)
            while self.bag:
                learnt |= self.bring(0)
            if len(self.events) == before and not learnt:
                idle = [pair for pair, words in self.open_here().items() if "ready" not in words]
                if idle:
                    self.step(("drop", min(idle)[1], min(idle)[0]))
        return rounds

    def heard(self):
        rows = {deal: (tuple(hand.answers[deal]), hand.verdicts[deal]) for hand in self.hands for deal in hand.answers}
        return tuple(rows[deal] for deal in sorted(rows))

    def settled_events(self):
        due = sorted((deal, house) for deal, houses in self.teller.yeses() for house in houses)
        return self.events + [("yes", house, deal) for deal, house in due if ("yes", house, deal) not in self.events]

    def meanings(self):
        return tuple(house.meaning(sorted(deal for deal, _ in self.teller.yeses())) for house in self.houses)

    def lives(self):
        return tuple(node.life for node in self.nodes)

    def out(self):
        return tuple(node.number if node is not self.teller else 4 for node in self.nodes if not node.up)


def plain_last_order(events):
    """The ended deals of a weave by their last readies."""
    ended = {event[2] for event in events if event[0] == "yes"}
    last = {event[2]: at for at, event in enumerate(events) if event[0] == "ready" and event[2] in ended}
    return tuple(sorted(last, key=last.get))
