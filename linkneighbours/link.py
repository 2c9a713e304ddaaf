"""One link: what is ours, what time it is, who the neighbours are, and the calls about them."""

from linkneighbours.neighbour import ASKED_FOR, KNOWN, OLD, Neighbour
from linkneighbours.wanted import FORGOTTEN, NOBODY_ANSWERS, NO_ROOM, TOO_MANY_WAIT, Wanted
from linkneighbours.words import ANSWERED, ASKED, EVERYBODY, EVERYBODY_ON_LINK, LAST_PACKET, Message
from linkneighbours.words import may_have_address, may_have_link_address, read_message

FIRST_LINK_ADDRESS = 0x20000000000
FIRST_ADDRESS = 1
# 2^63 - 1 - 30000, so that what becomes known then is still due below 2^63.
LAST_NOW = 9223372036854745807

MOST_NEIGHBOURS = 256
MOST_WAITING = 4
MOST_ASKED = 3

FINE = 0
WRONG = -1
NOTHING = -2
NO_MESSAGE = -3
EARLIER = -4


def due_order(neighbour):
    return (neighbour.due, neighbour.address)


def use_order(neighbour):
    return (neighbour.used, neighbour.address)


class Link:
    def __init__(self):
        self.link_address = FIRST_LINK_ADDRESS
        self.address = FIRST_ADDRESS
        self.now = 0
        self.neighbours = {}

    def begin(self, link_address, address):
        if not may_have_link_address(link_address) or not may_have_address(address):
            return [WRONG]
        self.link_address = link_address
        self.address = address
        self.now = 0
        self.neighbours = {}
        return [FINE]

    def send(self, now, to, packet):
        if not self.may_send(to) or packet > LAST_PACKET:
            return [WRONG]
        refusal = self.refuse_now(now)
        if refusal != FINE:
            return [refusal]
        wanted = self.go_on_to(now)
        self.hand_over(to, packet, wanted)
        return wanted.told()

    def came(self, now, sender, row):
        if sender > EVERYBODY_ON_LINK:
            return [WRONG]
        message = read_message(row)
        if message is None:
            return [NO_MESSAGE]
        refusal = self.refuse_now(now)
        if refusal != FINE:
            return [refusal]
        wanted = self.go_on_to(now)
        if self.heeds(sender, message):
            self.take_message(message, wanted)
        return wanted.told()

    def tick(self, now):
        refusal = self.refuse_now(now)
        if refusal != FINE:
            return [refusal]
        return self.go_on_to(now).told()

    def next_due(self):
        times = [neighbour.due for neighbour in self.neighbours.values() if neighbour.has_due()]
        if len(times) == 0:
            return [NOTHING]
        return [FINE, min(times)]

    def look(self, address):
        neighbour = self.neighbours.get(address)
        if neighbour is None:
            return [NOTHING]
        return neighbour.looked_at()

    def heard(self, now, address):
        refusal = self.refuse_now(now)
        if refusal != FINE:
            return [refusal]
        wanted = self.go_on_to(now)
        neighbour = self.neighbours.get(address)
        # Its link address stays and no packet waits, so there is nothing to tell or to pass, as know would.
        if neighbour is not None and neighbour.standing != ASKED_FOR:
            neighbour.become_known(neighbour.link_address, now)
        return wanted.told()

    def forget(self, now, address):
        refusal = self.refuse_now(now)
        if refusal != FINE:
            return [refusal]
        wanted = self.go_on_to(now)
        if address in self.neighbours:
            self.lose(self.neighbours[address], FORGOTTEN, wanted)
        return wanted.told()

    # A dict keeps the order in which keys came, and one that goes is taken out: so they lie as they came to be there.
    def list_addresses(self):
        numbers = [len(self.neighbours)]
        numbers.extend(list(self.neighbours))
        return numbers

    def refuse_now(self, now):
        if now > LAST_NOW:
            return WRONG
        if now < self.now:
            return EARLIER
        return FINE

    def go_on_to(self, now):
        self.now = now
        wanted = Wanted()
        due = [neighbour for neighbour in self.neighbours.values() if neighbour.is_due(now)]
        # What is done now makes nothing due by now, so each has one turn at most.
        for neighbour in sorted(due, key=due_order):
            self.do_due(neighbour, wanted)
        return wanted

    def do_due(self, neighbour, wanted):
        if neighbour.standing == KNOWN:
            neighbour.become_old()
        elif neighbour.asked < MOST_ASKED:
            self.ask(neighbour, wanted)
        else:
            self.lose(neighbour, NOBODY_ANSWERS, wanted)

    def ask(self, neighbour, wanted):
        neighbour.note_asked(self.now)
        message = Message(ASKED, self.link_address, self.address, neighbour.address)
        wanted.send_message(neighbour.link_address, message)

    def lose(self, neighbour, why, wanted):
        self.neighbours.pop(neighbour.address)
        wanted.tell_lost(neighbour.address)
        for packet in neighbour.take_waiting():
            wanted.drop_packet(packet, why)

    def know(self, neighbour, link_address, wanted):
        neighbour.become_known(link_address, self.now)
        wanted.tell_known(neighbour.address, link_address)
        for packet in neighbour.take_waiting():
            wanted.pass_packet(packet, link_address)

    def make_room(self):
        if len(self.neighbours) < MOST_NEIGHBOURS:
            return True
        spare = [neighbour for neighbour in self.neighbours.values() if neighbour.standing != ASKED_FOR]
        if len(spare) == 0:
            return False
        gone = min(spare, key=use_order)
        self.neighbours.pop(gone.address)
        return True

    def add_neighbour(self, address):
        neighbour = Neighbour(address, self.now)
        self.neighbours[address] = neighbour
        return neighbour

    def may_send(self, to):
        return to == EVERYBODY or (may_have_address(to) and to != self.address)

    def hand_over(self, to, packet, wanted):
        if to == EVERYBODY:
            wanted.pass_packet(packet, EVERYBODY_ON_LINK)
        elif to in self.neighbours:
            self.hand_over_to(self.neighbours[to], packet, wanted)
        elif self.make_room():
            neighbour = self.add_neighbour(to)
            neighbour.waiting.append(packet)
            self.ask(neighbour, wanted)
        else:
            wanted.drop_packet(packet, NO_ROOM)

    def hand_over_to(self, neighbour, packet, wanted):
        neighbour.used = self.now
        if neighbour.standing == ASKED_FOR:
            self.let_wait(neighbour, packet, wanted)
            return
        wanted.pass_packet(packet, neighbour.link_address)
        if neighbour.standing == OLD:
            neighbour.become_asked_again()
            self.ask(neighbour, wanted)

    def let_wait(self, neighbour, packet, wanted):
        if len(neighbour.waiting) == MOST_WAITING:
            wanted.drop_packet(neighbour.waiting.pop(0), TOO_MANY_WAIT)
        neighbour.waiting.append(packet)

    def heeds(self, sender, message):
        if message.link_address != sender or sender == self.link_address:
            return False
        return may_have_link_address(sender)

    # Each case shuts out those below it: one that has our address is told, and neither answered nor kept.
    def take_message(self, message, wanted):
        if message.address == self.address:
            wanted.tell_ours_taken(message.link_address)
        elif message.what == ANSWERED:
            self.take_answer(message, wanted)
        elif message.about == self.address:
            self.take_question(message, wanted)

    def take_answer(self, message, wanted):
        neighbour = self.neighbours.get(message.address)
        if message.about != self.address or neighbour is None:
            return
        # No answer is believed that wasn't asked for.
        if neighbour.is_awaited():
            self.know(neighbour, message.link_address, wanted)

    def take_question(self, message, wanted):
        answer = Message(ANSWERED, self.link_address, self.address, message.address)
        wanted.send_message(message.link_address, answer)
        if not may_have_address(message.address):
            return
        if message.address in self.neighbours:
            self.know(self.neighbours[message.address], message.link_address, wanted)
        elif self.make_room():
            self.know(self.add_neighbour(message.address), message.link_address, wanted)
