"""Hands: each does its deals one after another, ask behind ask, and ends them."""

from ownseen.letters import TELLER


class Hand:
    """A hand; tasks are pairs (deal, steps), now is the number of the one that it does.

    Knows has the greatest life that it was told by each node, asked that of the asks of
    this deal to each house; ending is the end of this deal once it was sent. Answers and verdicts are kept
    for all its deals, and learnt counts them.
    """

    def __init__(self, node, tasks):
        self.node = node
        self.tasks = tasks
        self.now = 0
        self.knows = {}
        self.answers = {deal: () for deal, _ in tasks}
        self.verdicts = {}
        self.learnt = 0
        self.start_deal()

    def start_deal(self):
        """Nothing was sent of the deal that it does now."""
        self.asked = {}
        self.ending = None

    def is_idle(self):
        """Whether no deal is left."""
        return self.now == len(self.tasks)

    def known(self, node):
        """The life of the node that it knows."""
        return self.knows.get(node, 1)

    def letter(self):
        """The letter that its deal sends now, None if it has no deal left."""
        if self.is_idle():
            return None
        deal, steps = self.tasks[self.now]
        if len(self.answers[deal]) < len(steps):
            return self.ask_of(deal, steps)
        if self.ending is None:
            self.ending = self.end_of(deal, steps)
        return self.ending

    def number_of(self, deal, steps):
        """How many answers the deal has from the house of its next step."""
        done = steps[:len(self.answers[deal])]
        house = steps[len(done)][0]
        return len([step for step in done if step[0] == house])

    def ask_of(self, deal, steps):
        """The ask of the next step."""
        house, ask = steps[len(self.answers[deal])]
        # All asks of a deal to a house bear the life that was known when it was first asked.
        life = self.asked.setdefault(house, self.known(house))
        return (house, self.node, "ask", deal, self.number_of(deal, steps), ask, life)

    def end_of(self, deal, steps):
        """The end of a deal that has all its answers."""
        rows = []
        for house in sorted(self.asked):
            many = len([step for step in steps if step[0] == house])
            rows.append((house, many, self.asked[house]))
        return (TELLER, self.node, "end", deal, self.known(TELLER), tuple(rows))

    def take(self, letter):
        """Takes a letter; the letters that it sends."""
        sender, word, deal = letter[1:4]
        self.knows[sender] = max(self.known(sender), letter[-1])
        if self.is_idle() or self.tasks[self.now][0] != deal:
            return []
        steps = self.tasks[self.now][1]
        if word == "answer":
            self.take_answer(letter, steps)
        elif word == "told" and self.ending is not None:
            self.hear(deal, letter[4])
        elif word == "gone" and self.ending is None:
            return self.give_up(sender, deal, steps)
        return []

    def take_answer(self, letter, steps):
        """Takes an answer, if it is one to what its deal asks now."""
        _, house, _, deal, number, answer, _ = letter
        many = len(self.answers[deal])
        if many == len(steps) or house != steps[many][0] or number != self.number_of(deal, steps):
            return
        self.answers[deal] = self.answers[deal] + (answer,)
        self.learnt += 1

    def hear(self, deal, verdict):
        """Its deal has heard yes or no, and it goes on."""
        self.verdicts[deal] = verdict
        self.learnt += 1
        self.now += 1
        self.start_deal()

    def give_up(self, sender, deal, steps):
        """Gives its deal up that is gone at a house which it asked; the letters to the other houses."""
        houses = sorted({step[0] for step in steps[:len(self.answers[deal]) + 1]})
        if sender not in houses:
            return []
        self.hear(deal, 0)
        return [(house, self.node, "no", deal) for house in houses if house != sender]
