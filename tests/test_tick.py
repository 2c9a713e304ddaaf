import unittest

from tests.helper import (LAST_NOW, OTHERS, THEIRS, TOP, answer, asked, become_asked_again, become_known, become_old,
                          begin, dropped, due, last, lost, passed, question, refused, run, send, things, tick)


class Tick(unittest.TestCase):
    def test_nothing_due(self):
        self.assertEqual(run([tick(0), tick(0), tick(5), tick(LAST_NOW)]), [[0]] * 4)

    def test_one_asked_for_at_its_time_and_before(self):
        told = run([send(10, 7, 1), tick(1009), tick(1010), due()])
        self.assertEqual([things(each) for each in told[1:3]], [[], [asked(7)]])
        self.assertEqual(told[3], [0, 2010])

    def test_asked_three_times_then_lost(self):
        calls = [send(0, 7, 1), send(0, 7, 2), tick(999), tick(1000), tick(1999), tick(2000), tick(2999), tick(3000)]
        told = [things(each) for each in run(calls)]
        self.assertEqual(told[2:7], [[], [asked(7)], [], [asked(7)], []])
        self.assertEqual(told[7], [lost(7), dropped(1, 1), dropped(2, 1)])
        self.assertEqual(run(calls + [due()])[-1], [-2])
        self.assertEqual(last(calls + [tick(4000)]), [])
        self.assertEqual(last(calls + [send(3000, 7, 3)]), [asked(7)])

    def test_all_that_wait_are_dropped_the_first_first(self):
        calls = [send(0, 7, packet) for packet in (5, 4, 3, 2, 1)] + [tick(1000), tick(2000), tick(3000)]
        self.assertEqual(last(calls), [lost(7)] + [dropped(packet, 1) for packet in (4, 3, 2, 1)])

    def test_known_is_old_after_30000(self):
        calls = become_known(7, 10)
        self.assertEqual(last(calls + [tick(30009), send(30009, 7, 1)]), [passed(1, THEIRS)])
        self.assertEqual(last(calls + [tick(30010)]), [])
        self.assertEqual(last(calls + [tick(30010), send(30010, 7, 1)]), [passed(1, THEIRS), asked(7, THEIRS)])

    def test_one_known_anew_is_known_for_longer(self):
        calls = become_known(7) + [question(20000, 7), tick(49999)]
        self.assertEqual(last(calls + [send(49999, 7, 1)]), [passed(1, THEIRS)])
        self.assertEqual(last(calls + [send(50000, 7, 1)]), [passed(1, THEIRS), asked(7, THEIRS)])

    def test_being_used_does_not_make_it_known_for_longer(self):
        calls = become_known(7) + [send(29000, 7, 1), send(30000, 7, 1)]
        self.assertEqual(last(calls), [passed(1, THEIRS), asked(7, THEIRS)])

    def test_of_an_old_one_nothing_is_due(self):
        self.assertEqual(run(become_old(7) + [tick(31000), tick(10 ** 9), due()])[2:], [[0], [0], [-2]])

    def test_one_asked_again_is_lost(self):
        calls = become_asked_again(7) + [tick(30999), tick(31000), tick(32000), tick(32999), tick(33000)]
        told = [things(each) for each in run(calls)[3:]]
        self.assertEqual(told, [[], [asked(7, THEIRS)], [asked(7, THEIRS)], [], [lost(7)]])
        self.assertEqual(run(calls + [due()])[-1], [-2])
        self.assertEqual(last(calls + [send(33000, 7, 1)]), [asked(7)])

    def test_several_at_one_time_in_order_of_address(self):
        calls = [send(0, address, address) for address in (9, 3, 300, 7)]
        order = [asked(3), asked(7), asked(9), asked(300)]
        self.assertEqual(last(calls + [tick(1000)]), order)
        told = last(calls + [tick(1000), tick(2000), tick(3000)])
        self.assertEqual(told, [thing for address in (3, 7, 9, 300) for thing in (lost(address), dropped(address, 1))])

    def test_several_in_order_of_time_then_of_address(self):
        calls = [send(0, 9, 1), send(1, 8, 1), send(1, 3, 1), send(2, 2, 1), tick(1001)]
        self.assertEqual(last(calls), [asked(9), asked(3), asked(8)])
        self.assertEqual(last(calls[:4] + [tick(1002)]), [asked(9), asked(3), asked(8), asked(2)])

    def test_those_of_every_standing_in_one_order(self):
        calls = become_asked_again(50) + [send(30000, 40, 4), question(30000, 60), send(30500, 30, 3)]
        calls += [tick(31000), tick(32000)]
        self.assertEqual(last(calls + [tick(33000)]), [asked(30), lost(40), dropped(4, 1), lost(50)])

    def test_after_a_leap_each_is_asked_once_more_from_then_on(self):
        calls = [send(0, 7, 1), send(500, 8, 2), question(500, 6), tick(10 ** 6)]
        self.assertEqual(last(calls), [asked(7), asked(8)])
        self.assertEqual(run(calls + [due()])[-1], [0, 10 ** 6 + 1000])
        # Asked at one time now, they are due in order of address.
        self.assertEqual(last(calls + [tick(2 * 10 ** 6)]), [asked(7), asked(8)])
        told = last(calls + [tick(2 * 10 ** 6), tick(LAST_NOW)])
        self.assertEqual(told, [lost(7), dropped(1, 1), lost(8), dropped(2, 1)])
        self.assertEqual(last(calls + [send(10 ** 6, 6, 3)]), [passed(3, THEIRS), asked(6, THEIRS)])

    def test_one_asked_late_is_due_1000_from_then(self):
        calls = [send(0, 7, 1), tick(1600)]
        self.assertEqual(last(calls + [tick(2599)]), [])
        self.assertEqual(last(calls + [tick(2600)]), [asked(7)])

    def test_one_known_meanwhile_is_not_asked(self):
        self.assertEqual(last([send(0, 7, 1), answer(999, 7), tick(1000)]), [])

    def test_our_addresses_are_in_what_is_asked(self):
        calls = [begin(OTHERS, 9), send(0, 7, 1), tick(1000)]
        self.assertEqual(last(calls), [asked(7, 2 ** 48 - 1, OTHERS, 9)])


class Refusals(unittest.TestCase):
    before = [question(100, 7), send(200, 8, 1)]
    after = [due(), tick(199), tick(200), send(300, 7, 2), tick(1200)]

    def test_now_too_great(self):
        for now in (LAST_NOW + 1, 2 ** 63 - 1, 2 ** 63, TOP):
            refused(self, self.before, tick(now), -1, self.after)
            refused(self, [tick(LAST_NOW)], tick(now), -1, [tick(LAST_NOW)])

    def test_an_earlier_now(self):
        for now in (0, 100, 199):
            refused(self, self.before, tick(now), -4, self.after)
        self.assertEqual(run([tick(LAST_NOW), tick(LAST_NOW - 1), tick(LAST_NOW)]), [[0], [-4], [0]])


if __name__ == "__main__":
    unittest.main()
