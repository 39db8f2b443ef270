"""The teller: asks the houses of a deal round, and tells yes or no."""

from ownseen.entries import packed_yes, yeses_kept
from ownseen.errors import BadValue
from ownseen.guards import want_deal
from ownseen.journals import meant
from ownseen.letters import TELLER, is_letter
from ownseen.nodes import Node

YES = 1
NO = 0


def yeses_of(disk):
    """The pairs (deal, lot of its houses) of the yeses that lie on the disk, in their order."""
    return yeses_kept(meant(disk)[2])


class Round:
    """A deal that is asked round for a hand: rows tell for each house how many answers, in which life."""

    def __init__(self, hand, rows):
        self.hand = hand
        self.rows = {row[0]: row[1:] for row in rows}
        self.said = {}

    def silent(self):
        """The houses that have not yet said held, ascending."""
        return [house for house in self.rows if house not in self.said]


class Teller(Node):
    """A teller; beside what is told, rounds has what is asked round, yeses the houses of what is decided yes.

    Noes has what is decided no, dones the pairs (deal, house) of which done was said.
    """

    def __init__(self, disk):
        super().__init__(disk)
        self.come_up()

    @property
    def asking(self):
        """The lot of the deals that are asked round."""
        return tuple(sorted(self.rounds))

    def forget(self):
        """Nothing is in mind."""
        self.rounds = {}
        self.yeses = {}
        self.noes = {}
        self.dones = {}

    def begin(self):
        """A life begins with the yeses that lasted."""
        for deal, houses in yeses_kept(self.journal.records()):
            self.yeses[deal] = houses

    def cut(self, lands, torn=()):
        """Pulls the plug of its disk."""
        self.pull(lands, torn)

    def fuse(self, many):
        """Puts a fuse into its disk."""
        self.disk.fuse(many)

    def rise(self):
        """Comes up if it is out, and tells whether it did."""
        return self.come_up()

    def to_house(self, house, word, deal):
        """A letter to a house."""
        return (house, TELLER, word, deal)

    def told(self, hand, deal, verdict):
        """What was decided, to a hand."""
        return (hand, TELLER, "told", deal, verdict, self.life)

    def holds(self, deal):
        """A hold to each house of a deal asked round that has not yet said held."""
        asked = self.rounds[deal]
        return [(house, TELLER, "hold", deal, *asked.rows[house]) for house in asked.silent()]

    def decide_yes(self, deal):
        """The letters of a yes to a deal that is asked round; of a no if there is no room for it."""
        if self.journal.room == 0:
            return self.decide_no(deal)
        asked = self.rounds[deal]
        self.journal.put(packed_yes(deal, list(asked.rows)))
        self.journal.force()
        del self.rounds[deal]
        self.yeses[deal] = tuple(asked.rows)
        return [self.to_house(house, "yes", deal) for house in asked.rows] + [self.told(asked.hand, deal, YES)]

    def decide_no(self, deal):
        """The letters of a no to a deal that is asked round."""
        asked = self.rounds[deal]
        del self.rounds[deal]
        self.noes[deal] = True
        return [self.to_house(house, "no", deal) for house in asked.rows] + [self.told(asked.hand, deal, NO)]

    def take_end(self, letter):
        """The letters that an end brings about."""
        _, hand, _, deal, life, rows = letter
        if deal in self.rounds:
            return self.holds(deal)
        if deal not in self.yeses and deal not in self.noes:
            if life == self.life:
                self.rounds[deal] = Round(hand, rows)
                return self.holds(deal) if rows else self.decide_yes(deal)
            self.noes[deal] = True
        return [self.told(hand, deal, YES if deal in self.yeses else NO)]

    def take_said(self, letter):
        """The letters that a held, or a barred, brings about while its deal is asked round."""
        house, word, deal = letter[1:4]
        asked = self.rounds[deal]
        if house not in asked.rows:
            return []
        if word == "barred":
            return self.decide_no(deal)
        asked.said[house] = True
        return [] if asked.silent() else self.decide_yes(deal)

    def take_what(self, letter):
        """The letters that a what brings about whose deal is not asked round."""
        house, deal = letter[1], letter[3]
        if deal in self.yeses:
            return [self.to_house(house, "yes", deal)]
        self.noes[deal] = True
        return [self.to_house(house, "no", deal)]

    def note_done(self, letter):
        """Notes that a house of a deal that is decided yes has done it."""
        house, deal = letter[1], letter[3]
        if house in self.yeses.get(deal, ()):
            self.dones[(deal, house)] = True
        return []

    def reply(self, letter):
        """The letters that a letter to the teller brings about."""
        word, deal = letter[2:4]
        if word == "end":
            return self.take_end(letter)
        if word == "done":
            return self.note_done(letter)
        if deal in self.rounds:
            return [] if word == "what" else self.take_said(letter)
        return [] if word == "barred" else self.take_what(letter)

    def take(self, letter):
        """Takes a letter; the letters that it sends."""
        if not is_letter(letter) or letter[0] != TELLER:
            raise BadValue("letter")
        return self.send_for(letter)

    def give_up(self, deal):
        """Decides no for a deal that is asked round; the letters that it sends."""
        want_deal(deal)
        return tuple(self.decide_no(deal)) if deal in self.rounds else ()

    def again(self):
        """Sends once more what was not yet answered in this life."""
        letters = []
        for deal in sorted([*self.rounds, *self.yeses]):
            if deal in self.rounds:
                letters.extend(self.holds(deal))
            else:
                left = [house for house in self.yeses[deal] if (deal, house) not in self.dones]
                letters.extend([self.to_house(house, "yes", deal) for house in left])
        return tuple(letters)
