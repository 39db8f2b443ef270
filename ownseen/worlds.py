"""Worlds: houses, a teller and hands, by a script of steps and mishaps."""

from ownseen.disks import MOST_BLOCKS, Disk
from ownseen.errors import BadScript, BadValue
from ownseen.hands import Hand
from ownseen.houses import House
from ownseen.letters import FIRST_HAND, TELLER
from ownseen.programs import Program
from ownseen.scripts import is_script, is_step
from ownseen.tellers import Teller, yeses_of
from ownseen.weaves import Weave, last_order

MOST_LETTERS = 40


def hands_of(program):
    """The hands of a world with this program."""
    tasks = list(enumerate(program.deals))
    return [
        Hand(FIRST_HAND + number, [task for task in tasks if program.owners[task[0]] == number])
        for number in range(len(program.hands))
    ]


def open_pairs(events):
    """The pairs (deal, house) of the deals that are open at a house, those that are not ready there first."""
    words = {}
    for event in events:
        words.setdefault((event[2], event[1]), []).append(event[0])
    left = [pair for pair in sorted(words) if "yes" not in words[pair] and "no" not in words[pair]]
    return ([pair for pair in left if "ready" not in words[pair]], [pair for pair in left if "ready" in words[pair]])


class World:
    """A world; events are those of all its houses, bag has its letters."""

    def __init__(self, program):
        if not isinstance(program, Program):
            raise BadValue("program")
        self.program = program
        self.houses = [
            House(number, kind, way, table, Disk(MOST_BLOCKS))
            for number, (kind, way, table) in enumerate(program.houses)
        ]
        self.teller = Teller(Disk(MOST_BLOCKS))
        self.hands = hands_of(program)
        self.bag = []
        self.events = []

    def nodes(self):
        """The houses, and the teller behind them."""
        return [*self.houses, self.teller]

    def has_node(self, number):
        """Whether it has the house, or the teller, of this number."""
        return number == TELLER or number < len(self.houses)

    def node_at(self, number):
        """The house, or the teller, of this number."""
        return self.teller if number == TELLER else self.houses[number]

    def gather(self):
        """Writes down what happened at the houses."""
        for number, house in enumerate(self.houses):
            for event in house.news():
                self.events.append((event[0], number, *event[1:]))

    def lay(self, letters):
        """Puts letters into the bag; what would come beyond it is lost."""
        self.bag.extend(letters)
        del self.bag[MOST_LETTERS:]

    def deliver(self, letter):
        """Brings a letter; what its node sends then is put into the bag."""
        to = letter[0]
        node = self.hands[to - FIRST_HAND] if to >= FIRST_HAND else self.node_at(to)
        self.lay(node.take(letter))

    def send(self, number):
        """The hand puts the letter that its deal sends now into the bag."""
        if number >= len(self.hands):
            return False
        letter = self.hands[number].letter()
        if letter is None:
            return False
        self.lay([letter])
        return True

    def handle(self, word, at):
        """Does something with a letter in the bag."""
        if not self.bag:
            return False
        place = at % len(self.bag)
        if word == "twice":
            self.lay([self.bag[place]])
            return True
        letter = self.bag.pop(place)
        if word == "bring":
            self.deliver(letter)
        return True

    def pull(self, number, bits):
        """Pulls the plug of a node; the bits tell which writes land."""
        node = self.node_at(number)
        node.cut([write for write in range(node.disk.waiting()) if bits >> write & 1])
        return True

    def burn(self, number, many):
        """Sets a fuse for a node that is up."""
        node = self.node_at(number)
        if many == 0 or not node.up:
            return False
        node.fuse(many)
        return True

    def lay_some(self, letters):
        """Puts letters into the bag, and tells whether there were any."""
        self.lay(letters)
        return len(letters) > 0

    def drop(self, number, deal):
        """The house drops the deal, if it is at work there."""
        if deal not in self.houses[number].working:
            return False
        self.lay(self.houses[number].drop(deal))
        return True

    def do_at_node(self, told):
        """Does a step at a node that it has."""
        word, number = told[:2]
        if word == "cut":
            return self.pull(number, told[2])
        if word == "fuse":
            return self.burn(number, told[2])
        if word == "rise":
            return self.node_at(number).rise()
        if word == "again":
            return self.lay_some(self.node_at(number).again())
        if word == "drop":
            return self.drop(number, told[2])
        return self.houses[number].sweep()

    def do_step(self, told):
        """Does a right step; whether it did anything."""
        if told[0] == "send":
            return self.send(told[1])
        if told[0] in ("bring", "lose", "twice"):
            return self.handle(told[0], told[1])
        if told[0] == "quit":
            return self.lay_some(self.teller.give_up(told[1]))
        return self.has_node(told[1]) and self.do_at_node(told)

    def step(self, told):
        """Does one step of the world; whether it did anything."""
        if not is_step(told):
            raise BadScript("told")
        did = self.do_step(told)
        self.gather()
        return did

    def run(self, script):
        """Does all steps; how many of them did anything."""
        if not is_script(script):
            raise BadScript("script")
        many = 0
        for told in script:
            if self.step(told):
                many += 1
        return many

    def is_calm(self):
        """Whether all is up, heard of, and over."""
        unready, readied = open_pairs(self.events)
        if self.out() or unready or readied:
            return False
        return all([hand.is_idle() for hand in self.hands])

    def so_far(self):
        """How much happened, and was heard, until now."""
        return len(self.events) + sum([hand.learnt for hand in self.hands])

    def do_round(self):
        """All that is out comes up, all that may be sent is sent once more, and all letters are brought."""
        before = self.so_far()
        for node in self.nodes():
            node.rise()
            self.gather()
        for number in range(len(self.hands)):
            self.send(number)
        for node in self.nodes():
            self.lay(node.again())
        while self.bag:
            self.handle("bring", 0)
            self.gather()
        if self.so_far() == before:
            self.drop_one()

    def drop_one(self):
        """Drops the least deal that is open, and not ready, at a house."""
        unready = open_pairs(self.events)[0]
        if unready:
            self.drop(unready[0][1], unready[0][0])
            self.gather()

    def calm(self):
        """Does rounds without a mishap until all is over; how many."""
        for node in self.nodes():
            node.disk.no_fuse()
        many = 0
        while not self.is_calm():
            self.do_round()
            many += 1
        return many

    def weave(self):
        """The weave of what happened."""
        return Weave([house.kind for house in self.houses], self.events)

    def settled(self):
        """The weave, and behind it the yeses that are under way."""
        told = [event[1:] for event in self.events if event[0] == "yes"]
        due = sorted([(deal, house) for deal, houses in yeses_of(self.teller.disk) for house in houses])
        yeses = [("yes", house, deal) for deal, house in due if (house, deal) not in told]
        return Weave([house.kind for house in self.houses], self.events + yeses)

    def order(self):
        """The ended deals by their last readies."""
        return last_order(self.settled())

    def heard(self):
        """For each deal its answers, and what it heard, None if nothing yet."""
        rows = {}
        for hand in self.hands:
            for deal in hand.answers:
                rows[deal] = (hand.answers[deal], hand.verdicts.get(deal))
        return tuple([rows[deal] for deal in sorted(rows)])

    def meanings(self):
        """For each house the state that its disk means, all deals that have a yes being ended."""
        ended = sorted([deal for deal, _ in yeses_of(self.teller.disk)])
        return tuple([house.meaning(ended) for house in self.houses])

    def letters(self):
        """The letters in the bag."""
        return tuple(self.bag)

    def lives(self):
        """The lives of the houses, and of the teller."""
        return tuple([node.life for node in self.nodes()])

    def out(self):
        """The lot of the nodes whose plug is out."""
        nodes = list(enumerate(self.houses)) + [(TELLER, self.teller)]
        return tuple([number for number, node in nodes if not node.up])
