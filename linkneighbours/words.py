"""The words of a link: who may have which address, and how a message lies in its bytes."""

EVERYBODY = 0xFFFFFFFF
EVERYBODY_ON_LINK = 0xFFFFFFFFFFFF
LAST_PACKET = 0xFFFFFFFF
BIT_40 = 0x10000000000

ASKED = 1
ANSWERED = 2
MESSAGE_SIZE = 20


class Message:
    # One shape serves both: about is the address asked for, or that of the asker who is answered.
    def __init__(self, what, link_address, address, about):
        self.what = what
        self.link_address = link_address
        self.address = address
        self.about = about


def may_have_link_address(number):
    return number != 0 and number <= EVERYBODY_ON_LINK and (number & BIT_40) == 0


def may_have_address(number):
    return number != 0 and number < EVERYBODY


def split_number(number, size):
    return [(number >> (8 * (size - 1 - place))) & 255 for place in range(size)]


def join_number(row):
    number = 0
    for byte in row:
        number = number * 256 + byte
    return number


def write_message(message):
    row = split_number(message.what, 2)
    row.extend(split_number(message.link_address, 6))
    row.extend(split_number(message.address, 4))
    row.extend(split_number(message.about, 4))
    row.extend(split_number(0, 4))
    return row


# None stands for bytes that are no message: a caller refuses them before it looks at the time.
def read_message(row):
    if len(row) != MESSAGE_SIZE or join_number(row[16:20]) != 0:
        return None
    what = join_number(row[0:2])
    if what != ASKED and what != ANSWERED:
        return None
    return Message(what, join_number(row[2:8]), join_number(row[8:12]), join_number(row[12:16]))
