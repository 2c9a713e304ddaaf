"""One neighbour: how it stands, which packets wait for it, and when something is due of it."""

from linkneighbours.words import EVERYBODY_ON_LINK

# These are also what a look at one tells first.
ASKED_FOR = 1
KNOWN = 2
OLD = 3
ASKED_AGAIN = 4

KNOWN_TIME = 30000
ASKED_TIME = 1000


class Neighbour:
    def __init__(self, address, now):
        self.address = address
        self.used = now
        self.standing = ASKED_FOR
        # While its own isn't known everybody is asked, so that asking needn't tell the two ways apart.
        self.link_address = EVERYBODY_ON_LINK
        self.asked = 0
        self.waiting = []
        self.due = now

    def has_due(self):
        return self.standing != OLD

    def is_due(self, now):
        return self.has_due() and self.due <= now

    def is_awaited(self):
        return self.standing == ASKED_FOR or self.standing == ASKED_AGAIN

    def note_asked(self, now):
        self.asked += 1
        self.due = now + ASKED_TIME

    def become_known(self, link_address, now):
        self.standing = KNOWN
        self.link_address = link_address
        self.due = now + KNOWN_TIME

    def become_old(self):
        self.standing = OLD

    def become_asked_again(self):
        self.standing = ASKED_AGAIN
        self.asked = 0

    def looked_at(self):
        if self.standing == ASKED_FOR:
            return [ASKED_FOR, self.asked, len(self.waiting), self.due]
        if self.standing == KNOWN:
            return [KNOWN, self.link_address, self.due]
        if self.standing == OLD:
            return [OLD, self.link_address]
        return [ASKED_AGAIN, self.link_address, self.asked, self.due]

    def take_waiting(self):
        packets = self.waiting
        self.waiting = []
        return packets
