"""Lays calls into one list and takes answers out of one, by the document's words alone."""

from linkneighbours.desk import answers

EVERYBODY = 2 ** 32 - 1
ALL = 2 ** 48 - 1
OUR_LINK = 2 ** 41
OURS = 1
LAST_NOW = 2 ** 63 - 1 - 30000
TOP = 2 ** 64 - 1
# Another's link address, and one more.
THEIRS = 0x0211223344AA
OTHERS = 0x0211223344BB

SIZES = {1: 3, 2: 22, 3: 3, 4: 3, 5: 2, 6: 2}


def begin(link_address, address):
    return [1, link_address, address]


def send(now, to, packet):
    return [2, now, to, packet]


def came(now, sender, row):
    return [3, now, sender, len(row)] + list(row)


def tick(now):
    return [4, now]


def due():
    return [5]


def look(address):
    return [6, address]


def heard(now, address):
    return [7, now, address]


def forget(now, address):
    return [8, now, address]


def listing():
    return [9]


def message(what, link_address, address, about):
    row = what.to_bytes(2, "big") + link_address.to_bytes(6, "big")
    row += address.to_bytes(4, "big") + about.to_bytes(4, "big") + bytes(4)
    return list(row)


def question(now, address, link_address=THEIRS, about=OURS):
    return came(now, link_address, message(1, link_address, address, about))


def answer(now, address, link_address=THEIRS, about=OURS):
    return came(now, link_address, message(2, link_address, address, about))


def run(calls):
    """Give each call's answer as a list."""
    numbers = answers([number for call in calls for number in call])
    told = []
    place = 0
    while place < len(numbers):
        size = numbers[place]
        told.append(numbers[place + 1:place + 1 + size])
        if len(told[-1]) != size or size < 1:
            raise AssertionError("an answer's count is not its length")
        place += 1 + size
    if len(told) != len(calls):
        raise AssertionError("not one answer for each call")
    return told


def things(told):
    """Give what is wanted as a list of tuples."""
    found = []
    place = 1
    while place < len(told):
        size = SIZES[told[place]]
        found.append(tuple(told[place:place + size]))
        place += size
    if place != len(told) or told[0] != len(found):
        raise AssertionError(f"not as many things as are told: {told}")
    return found


def last(calls):
    """Give what the last of these calls wants; none of them may be refused."""
    told = run(calls)
    if [-1] in told or [-3] in told or [-4] in told:
        raise AssertionError(f"refused: {told}")
    return things(told[-1])


def passed(packet, link_address):
    return (1, packet, link_address)


def asked(address, at=ALL, link_address=OUR_LINK, ours=OURS):
    return (2, at) + tuple(message(1, link_address, ours, address))


def answered(address, at=THEIRS, link_address=OUR_LINK, ours=OURS):
    return (2, at) + tuple(message(2, link_address, ours, address))


def dropped(packet, why):
    return (3, packet, why)


def known(address, link_address=THEIRS):
    return (4, address, link_address)


def lost(address):
    return (5, address)


def taken(link_address=THEIRS):
    return (6, link_address)


# How a neighbour comes to stand, each with the times of its calls.
def become_known(address, now=0, link_address=THEIRS):
    return [question(now, address, link_address)]


def become_old(address, now=0, link_address=THEIRS):
    """It is old 30000 after now."""
    return become_known(address, now, link_address) + [tick(now + 30000)]


def become_asked_again(address, now=0, link_address=THEIRS):
    """It is asked again 30000 after now; packet 99 is passed."""
    return become_old(address, now, link_address) + [send(now + 30000, address, 99)]


def behind(calls, call):
    """Give what the call answers behind these; none of these may be refused."""
    told = run(calls + [call])
    for each in told[:-1]:
        if each[0] in (-1, -3, -4):
            raise AssertionError(f"refused: {told}")
    return told[-1]


def all_of(*addresses):
    """Give calls that tell all that may be told of these, and change nothing."""
    return [listing(), due()] + [look(address) for address in addresses]


def refused(test, before, call, code, after):
    """The call between is refused, and those behind it answer as if it had not been there."""
    told = run(before + [call] + after)
    test.assertEqual(told[len(before)], [code])
    del told[len(before)]
    test.assertEqual(told, run(before + after))
