"""What a call wants done: the things that it answers, in order, each a row of numbers."""

from linkneighbours.words import write_message

PASSED = 1
SENT = 2
DROPPED = 3
KNOWN_NOW = 4
LOST = 5
OURS_TAKEN = 6

NOBODY_ANSWERS = 1
TOO_MANY_WAIT = 2
NO_ROOM = 3
FORGOTTEN = 4


class Wanted:
    def __init__(self):
        self.things = []

    def pass_packet(self, packet, link_address):
        self.things.append([PASSED, packet, link_address])

    def send_message(self, link_address, message):
        thing = [SENT, link_address]
        thing.extend(write_message(message))
        self.things.append(thing)

    def drop_packet(self, packet, why):
        self.things.append([DROPPED, packet, why])

    def tell_known(self, address, link_address):
        self.things.append([KNOWN_NOW, address, link_address])

    def tell_lost(self, address):
        self.things.append([LOST, address])

    def tell_ours_taken(self, link_address):
        self.things.append([OURS_TAKEN, link_address])

    def told(self):
        numbers = [len(self.things)]
        for thing in self.things:
            numbers.extend(thing)
        return numbers
