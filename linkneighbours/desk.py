"""The desk: a list of calls about one link goes in, the list of their answers comes out."""

from linkneighbours.link import Link

BEGIN = 1
SEND = 2
CAME = 3
TICK = 4
NEXT = 5
LOOK = 6
HEARD = 7
FORGET = 8
LIST = 9


class UnknownCall(ValueError):
    pass


# Keeps its place beside the list, because what is handed in is not changed.
class Reader:
    def __init__(self, numbers):
        self.numbers = numbers
        self.place = 0

    def has_more(self):
        return self.place < len(self.numbers)

    def take_number(self):
        number = self.numbers[self.place]
        self.place += 1
        return number

    def take_row(self):
        size = self.take_number()
        row = self.numbers[self.place:self.place + size]
        self.place += size
        return row


def answer_begin(link, reader):
    link_address = reader.take_number()
    address = reader.take_number()
    return link.begin(link_address, address)


def answer_send(link, reader):
    now = reader.take_number()
    to = reader.take_number()
    packet = reader.take_number()
    return link.send(now, to, packet)


def answer_came(link, reader):
    now = reader.take_number()
    sender = reader.take_number()
    row = reader.take_row()
    return link.came(now, sender, row)


def answer_heard(link, reader):
    now = reader.take_number()
    address = reader.take_number()
    return link.heard(now, address)


def answer_forget(link, reader):
    now = reader.take_number()
    address = reader.take_number()
    return link.forget(now, address)


def answer_call(link, reader):
    number = reader.take_number()
    if number == BEGIN:
        return answer_begin(link, reader)
    if number == SEND:
        return answer_send(link, reader)
    if number == CAME:
        return answer_came(link, reader)
    if number == TICK:
        return link.tick(reader.take_number())
    if number == NEXT:
        return link.next_due()
    if number == LOOK:
        return link.look(reader.take_number())
    if number == HEARD:
        return answer_heard(link, reader)
    if number == FORGET:
        return answer_forget(link, reader)
    if number == LIST:
        return link.list_addresses()
    raise UnknownCall(f"no call {number}")


def answers(calls):
    link = Link()
    reader = Reader(calls)
    numbers = []
    while reader.has_more():
        answer = answer_call(link, reader)
        numbers.append(len(answer))
        numbers.extend(answer)
    return numbers
