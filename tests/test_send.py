import unittest

from tests.helper import (ALL, EVERYBODY, LAST_NOW, OTHERS, OURS, THEIRS, TOP, answer, asked, become_asked_again,
                          become_known, become_old, begin, dropped, due, known, last, lost, passed, question,
                          refused, run, send, tick, things)


class Send(unittest.TestCase):
    def test_to_everybody(self):
        told = run([send(0, EVERYBODY, 5), due()])
        self.assertEqual(told, [[1, 1, 5, ALL], [-2]])

    def test_to_one_that_is_not_there(self):
        told = run([send(10, 7, 5), due()])
        self.assertEqual(told[0], [1, 2, ALL, 0, 1, 2, 0, 0, 0, 0, 0, 0, 0, 0, 1, 0, 0, 0, 7, 0, 0, 0, 0])
        self.assertEqual(told[1], [0, 1010])

    def test_each_byte_of_a_message_has_its_place(self):
        calls = [begin(0x0203040506FF, 0x11121314), send(0, 0x21222324, 5)]
        row = (0, 1, 2, 3, 4, 5, 6, 255, 0x11, 0x12, 0x13, 0x14, 0x21, 0x22, 0x23, 0x24, 0, 0, 0, 0)
        self.assertEqual(last(calls), [(2, ALL) + row])

    def test_to_one_asked_for_up_to_four_wait(self):
        calls = [send(0, 7, packet) for packet in (11, 12, 13, 14)]
        for size in (2, 3, 4):
            self.assertEqual(last(calls[:size]), [])
        told = last(calls + [answer(5, 7)])
        self.assertEqual(told, [known(7)] + [passed(packet, THEIRS) for packet in (11, 12, 13, 14)])

    def test_to_one_asked_for_where_four_wait_the_first_is_dropped(self):
        calls = [send(0, 7, packet) for packet in (11, 12, 13, 14, 15)]
        self.assertEqual(last(calls), [dropped(11, 2)])
        self.assertEqual(last(calls + [send(0, 7, 16)]), [dropped(12, 2)])
        told = last(calls + [send(0, 7, 16), answer(5, 7)])
        self.assertEqual(told, [known(7)] + [passed(packet, THEIRS) for packet in (13, 14, 15, 16)])

    def test_waiting_does_not_put_off_what_is_due(self):
        self.assertEqual(run([send(0, 7, 1), send(900, 7, 2), due()])[-1], [0, 1000])

    def test_to_a_known_one(self):
        told = run(become_known(7) + [send(29999, 7, 5), due()])
        self.assertEqual(told[1:], [[1, 1, 5, THEIRS], [0, 30000]])

    def test_to_an_old_one(self):
        calls = become_old(7) + [send(30500, 7, 5)]
        self.assertEqual(last(calls), [passed(5, THEIRS), asked(7, THEIRS)])
        self.assertEqual(run(calls + [due()])[-1], [0, 31500])

    def test_to_one_that_is_old_just_now(self):
        self.assertEqual(last(become_known(7) + [send(30000, 7, 5)]), [passed(5, THEIRS), asked(7, THEIRS)])

    def test_to_one_asked_again(self):
        told = run(become_asked_again(7) + [send(30400, 7, 5), due()])
        self.assertEqual(told[-2:], [[1, 1, 5, THEIRS], [0, 31000]])

    def test_one_old_a_second_time_is_asked_again_three_times(self):
        calls = become_asked_again(7) + [tick(31000), answer(31500, 7), tick(61500), send(61500, 7, 6)]
        self.assertEqual(last(calls), [passed(6, THEIRS), asked(7, THEIRS)])
        told = run(calls + [tick(62500), tick(63500), tick(64500)])
        self.assertEqual([things(each) for each in told[-3:]],
                         [[asked(7, THEIRS)], [asked(7, THEIRS)], [lost(7)]])

    def test_what_is_due_is_done_first(self):
        calls = [send(0, 7, 1), send(1000, 7, 2)]
        self.assertEqual(last(calls), [asked(7)])
        calls = calls + [send(2000, EVERYBODY, 3)]
        self.assertEqual(last(calls), [asked(7), passed(3, ALL)])
        calls = calls + [send(3000, 7, 4)]
        self.assertEqual(last(calls), [lost(7), dropped(1, 1), dropped(2, 1), asked(7)])

    def test_the_greatest_packet_and_addresses(self):
        self.assertEqual(last([send(0, EVERYBODY - 1, 2 ** 32 - 1)]), [asked(EVERYBODY - 1)])
        self.assertEqual(last([send(0, EVERYBODY, 2 ** 32 - 1)]), [passed(2 ** 32 - 1, ALL)])
        self.assertEqual(last([send(0, EVERYBODY, 0)]), [passed(0, ALL)])


class Room(unittest.TestCase):
    def fill(self, now, first, size):
        return [question(now, address) for address in range(first, first + size)]

    def test_with_255_nobody_goes(self):
        calls = self.fill(0, 100, 255) + [send(1, 5000, 1)]
        self.assertEqual(last(calls + [send(1, 100, 2)]), [passed(2, THEIRS)])

    def test_of_several_used_at_one_time_the_least_address_goes(self):
        calls = [question(0, address) for address in reversed(range(100, 356))] + [send(0, 5000, 1)]
        self.assertEqual(last(calls), [asked(5000)])
        self.assertEqual(last(calls + [send(0, 101, 2)]), [passed(2, THEIRS)])
        self.assertEqual(last(calls + [send(0, 100, 2)]), [asked(100)])

    def test_the_one_used_least_lately_goes(self):
        calls = self.fill(0, 100, 256)
        calls += [send(5, address, 1) for address in range(100, 356) if address != 222]
        calls += [send(6, 5000, 1)]
        self.assertEqual(last(calls), [asked(5000)])
        self.assertEqual(last(calls + [send(6, 100, 2)]), [passed(2, THEIRS)])
        self.assertEqual(last(calls + [send(6, 222, 2)]), [asked(222)])

    def test_one_that_came_later_is_used_later(self):
        calls = self.fill(5, 100, 1) + self.fill(6, 2, 98) + self.fill(7, 101, 157) + [send(8, 5000, 1)]
        self.assertEqual(last(calls + [send(8, 2, 2)]), [passed(2, THEIRS)])
        self.assertEqual(last(calls + [send(8, 100, 2)]), [asked(100)])

    def test_a_packet_that_waits_is_a_use(self):
        calls = [send(0, 100, 1)] + self.fill(1, 101, 255) + [send(2, 100, 1), answer(3, 100), send(4, 5000, 1)]
        self.assertEqual(last(calls + [send(4, 100, 2)]), [passed(2, THEIRS)])
        self.assertEqual(last(calls + [send(4, 101, 2)]), [asked(101)])

    def test_becoming_known_is_no_use(self):
        calls = [send(0, 200, 1)] + self.fill(1, 2, 198) + self.fill(1, 201, 57)
        calls += [answer(2, 200), question(3, 200), send(4, 5000, 1)]
        self.assertEqual(last(calls), [asked(5000)])
        self.assertEqual(last(calls + [send(4, 2, 2)]), [passed(2, THEIRS)])
        self.assertEqual(last(calls + [send(4, 200, 2)]), [asked(200)])

    def test_one_asked_for_does_not_go(self):
        calls = [send(0, 2, 9)] + self.fill(1, 100, 255) + [send(2, 5000, 1)]
        self.assertEqual(last(calls + [answer(2, 2)]), [known(2), passed(9, THEIRS)])
        self.assertEqual(last(calls + [send(2, 100, 2)]), [asked(100)])

    def test_an_old_one_goes(self):
        calls = become_old(300) + self.fill(30001, 2, 255) + [send(30001, 5000, 1)]
        self.assertEqual(last(calls), [asked(5000)])
        self.assertEqual(last(calls + [send(30001, 2, 2)]), [passed(2, THEIRS)])
        self.assertEqual(last(calls + [send(30001, 300, 2)]), [asked(300)])

    def test_one_asked_again_goes_and_nothing_is_due_of_it(self):
        calls = become_asked_again(300) + self.fill(30001, 2, 255) + [send(30002, 5000, 1)]
        self.assertEqual(last(calls), [asked(5000)])
        self.assertEqual(run(calls + [due()])[-1], [0, 31002])
        self.assertEqual(last(calls + [answer(30003, 300)]), [])

    def test_no_room(self):
        calls = [send(0, address, 1) for address in range(2, 258)]
        self.assertEqual(last(calls), [asked(257)])
        told = run(calls + [send(5, 5000, 42), due(), send(5, 2, 7), answer(5, 5000), send(5, EVERYBODY, 8)])
        self.assertEqual(told[-5:], [[1, 3, 42, 3], [0, 1000], [0], [0], [1, 1, 8, ALL]])

    def test_room_is_made_of_the_only_one_not_asked_for(self):
        calls = [send(0, address, 1) for address in range(2, 258)] + [answer(1, 257)]
        told = run(calls + [send(1, 5000, 42), send(1, 257, 43)])
        self.assertEqual(things(told[-2]), [asked(5000)])
        self.assertEqual(things(told[-1]), [dropped(43, 3)])

    def test_there_is_room_where_some_are_lost(self):
        calls = [send(0, address, 1) for address in range(2, 258)] + [tick(1000), tick(2000), send(3000, 5000, 42)]
        told = last(calls)
        self.assertEqual(told[:2], [lost(2), dropped(1, 1)])
        self.assertEqual(len(told), 2 * 256 + 1)
        self.assertEqual(told[-1], asked(5000))


class Refusals(unittest.TestCase):
    before = [begin(OTHERS, 9), question(100, 7, THEIRS, 9), send(200, 8, 1)]
    after = [due(), tick(199), send(300, 7, 2), send(300, 8, 3), send(300, 6, 4), tick(1200)]

    def test_an_address_nobody_may_have(self):
        for to in (0, 2 ** 32, 2 ** 32 + 7, 2 ** 33 - 1, 2 ** 63, TOP):
            refused(self, self.before, send(5000, to, 1), -1, self.after)

    def test_our_address(self):
        refused(self, self.before, send(5000, 9, 1), -1, self.after)
        self.assertEqual(run([send(0, OURS, 1)]), [[-1]])

    def test_a_packet_too_great(self):
        for packet in (2 ** 32, 2 ** 63, TOP):
            for to in (7, 8, 6, EVERYBODY):
                refused(self, self.before, send(5000, to, packet), -1, self.after)

    def test_now_too_great(self):
        for now in (LAST_NOW + 1, 2 ** 63 - 1, 2 ** 63, TOP):
            refused(self, self.before, send(now, 7, 1), -1, self.after)

    def test_the_last_now(self):
        told = run([send(LAST_NOW, 7, 1), due(), question(LAST_NOW, 7), due(), send(LAST_NOW, 7, 2)])
        self.assertEqual(things(told[0]), [asked(7)])
        self.assertEqual(told[1], [0, LAST_NOW + 1000])
        self.assertEqual(told[3], [0, 2 ** 63 - 1])
        self.assertEqual(things(told[4]), [passed(2, THEIRS)])

    def test_an_earlier_now(self):
        for now in (0, 100, 199):
            for to in (7, 8, 6, EVERYBODY):
                refused(self, self.before, send(now, to, 1), -4, self.after)
        self.assertEqual(last(self.before + [send(200, 7, 1)]), [passed(1, THEIRS)])

    def test_which_of_several_is_told(self):
        for call in (send(0, 0, 1), send(0, 9, 1), send(0, 7, 2 ** 32), send(0, 2 ** 32, TOP), send(TOP, 0, TOP)):
            refused(self, self.before, call, -1, self.after)
        late = [tick(LAST_NOW)]
        self.assertEqual(run(late + [send(LAST_NOW + 1, 7, 1)])[-1], [-1])
        self.assertEqual(run(late + [send(LAST_NOW - 1, 7, 1)])[-1], [-4])


if __name__ == "__main__":
    unittest.main()
