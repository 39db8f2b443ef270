"""Nodes: what houses and the teller have in common, a life on a disk whose plug may be pulled."""

from ownseen.disks import want_disk
from ownseen.errors import Out
from ownseen.journals import Journal, meant


class Node:
    """A node with a journal on its disk; blown is whether Out was raised since the last cut.

    The classes below it tell what they forget, with what a life begins, and what they reply.
    """

    def __init__(self, disk):
        want_disk(disk)
        self.disk = disk
        self.life = meant(disk)[0]
        self.journal = None
        self.blown = False
        self.fall()

    def forget(self):
        """Nothing is in mind."""

    def begin(self):
        """A life begins with what lasted."""

    def reply(self, letter):
        """The letters that a letter to this node brings about."""
        return []

    def fall(self):
        """The plug is out: all that was in mind is lost."""
        self.up = False
        self.forget()

    def blow(self):
        """The plug is out as Out was raised."""
        self.blown = True
        self.fall()

    def pull(self, lands, torn):
        """Pulls the plug of the disk."""
        self.disk.cut(lands, torn)
        self.blown = False
        self.fall()

    def come_up(self):
        """Comes up if it is out, and tells whether it did."""
        if self.up:
            return False
        if self.blown:
            self.pull((), ())
        try:
            self.journal = Journal(self.disk)
        except Out:
            self.blow()
            return False
        self.up = True
        self.life = self.journal.life
        self.begin()
        return True

    def send_for(self, letter):
        """What a letter to this node brings about, nothing if the plug is out or goes out."""
        if not self.up:
            return ()
        try:
            return tuple(self.reply(letter))
        except Out:
            self.blow()
            return ()
