import unittest

from tests.helper import (ALL, EVERYBODY, LAST_NOW, OTHERS, OURS, THEIRS, TOP, all_of, answer, answered, asked,
                          become_asked_again, become_known, become_old, begin, behind, dropped, due, forget, heard,
                          known, last, look, lost, passed, question, refused, run, send, things, tick)


class Forget(unittest.TestCase):
    def test_one_that_is_not_there(self):
        for address in (0, OURS, 6, EVERYBODY, 2 ** 32, 2 ** 32 + 7, 2 ** 63 + 8, TOP):
            self.assertEqual(run([forget(0, address)] + all_of(address)), [[0], [0], [-2], [-2]])
            before = [question(0, 7), send(0, 8, 1)]
            told = run(before + [forget(5, address)] + all_of(7, 8, address))
            self.assertEqual(told[2:], [[0], [2, 7, 8], [0, 1000], [2, THEIRS, 30000], [1, 1, 1, 1000], [-2]])

    def test_for_one_that_is_not_there_what_is_due_is_done(self):
        self.assertEqual(last([send(0, 7, 1), forget(1000, 6)]), [asked(7)])
        self.assertEqual(run([forget(50, 6), tick(49), tick(50)]), [[0], [-4], [0]])

    def gone(self, calls, address):
        self.assertEqual(run(calls + all_of(address))[-3:], [[0], [-2], [-2]])
        self.assertEqual(last(calls + [tick(10 ** 6)]), [])

    def test_one_asked_for(self):
        calls = [send(0, 7, 31), forget(5, 7)]
        self.assertEqual(run(calls)[-1], [2, 5, 7, 3, 31, 4])
        self.gone(calls, 7)

    def test_one_asked_for_with_several_that_wait(self):
        packets = (34, 33, 32, 31)
        for size in (1, 2, 3, 4):
            calls = [send(0, 7, packet) for packet in packets[:size]] + [forget(5, 7)]
            self.assertEqual(last(calls), [lost(7)] + [dropped(packet, 4) for packet in packets[:size]])
            self.gone(calls, 7)

    def test_one_asked_for_where_more_than_four_came(self):
        calls = [send(0, 7, packet) for packet in (31, 32, 33, 34, 35)] + [forget(5, 7)]
        self.assertEqual(last(calls), [lost(7)] + [dropped(packet, 4) for packet in (32, 33, 34, 35)])

    def test_a_known_one(self):
        calls = become_known(7) + [forget(5, 7)]
        self.assertEqual(last(calls), [lost(7)])
        self.gone(calls, 7)

    def test_one_whose_packets_were_passed(self):
        calls = [send(0, 7, 1), send(0, 7, 2), answer(5, 7), forget(6, 7)]
        self.assertEqual(last(calls), [lost(7)])

    def test_an_old_one(self):
        calls = become_old(7) + [forget(40000, 7)]
        self.assertEqual(last(calls), [lost(7)])
        self.gone(calls, 7)

    def test_one_that_is_old_just_now(self):
        self.assertEqual(last(become_known(7) + [forget(30000, 7)]), [lost(7)])

    def test_one_asked_again(self):
        calls = become_asked_again(7) + [forget(30500, 7)]
        self.assertEqual(last(calls), [lost(7)])
        self.gone(calls, 7)

    def test_it_is_asked_once_more_first(self):
        self.assertEqual(last([send(0, 7, 1), forget(1000, 7)]), [asked(7), lost(7), dropped(1, 4)])
        self.assertEqual(last(become_asked_again(7) + [forget(31000, 7)]), [asked(7, THEIRS), lost(7)])

    def test_where_what_is_due_makes_it_lost(self):
        calls = [send(0, 7, 1), send(0, 7, 2), tick(1000), tick(2000)]
        self.assertEqual(last(calls + [forget(2999, 7)]), [lost(7), dropped(1, 4), dropped(2, 4)])
        self.assertEqual(last(calls + [forget(3000, 7)]), [lost(7), dropped(1, 1), dropped(2, 1)])
        self.gone(calls + [forget(3000, 7)], 7)
        calls = become_asked_again(7) + [tick(31000), tick(32000)]
        self.assertEqual(last(calls + [forget(33000, 7)]), [lost(7)])
        self.gone(calls + [forget(33000, 7)], 7)

    def test_what_is_due_of_others_is_done_first(self):
        calls = [send(0, 9, 1), send(0, 5, 2), question(0, 4), forget(1000, 4)]
        self.assertEqual(last(calls), [asked(5), asked(9), lost(4)])
        self.assertEqual(last(calls[:3] + [forget(1000, 5)]), [asked(5), asked(9), lost(5), dropped(2, 4)])

    def test_others_stand_as_they_stood(self):
        calls = become_old(5) + [question(30000, 6), send(30000, 7, 1), send(30001, 8, 2), forget(30002, 6)]
        told = run(calls + all_of(5, 6, 7, 8))
        self.assertEqual(told[-6:], [[3, 5, 7, 8], [0, 31000], [3, THEIRS], [-2], [1, 1, 1, 31000], [1, 1, 1, 31001]])

    def test_forgotten_twice(self):
        self.assertEqual(run([send(0, 7, 1), forget(0, 7), forget(0, 7)])[1:], [[2, 5, 7, 3, 1, 4], [0]])

    def test_the_greatest_address(self):
        self.assertEqual(last([send(0, EVERYBODY - 1, 1), forget(0, EVERYBODY - 1)]),
                         [lost(EVERYBODY - 1), dropped(1, 4)])


class ThereAnew(unittest.TestCase):
    def test_by_a_packet(self):
        for come in ([send(0, 7, 1), send(0, 7, 2)], become_known(7), become_old(7), become_asked_again(7)):
            calls = come + [forget(30000, 7)]
            self.assertEqual(last(calls + [send(30000, 7, 3)]), [asked(7)])
            self.assertEqual(behind(calls + [send(30000, 7, 3)], look(7)), [1, 1, 1, 31000])
            told = last(calls + [send(30000, 7, 3), answer(30001, 7, OTHERS)])
            self.assertEqual(told, [known(7, OTHERS), passed(3, OTHERS)])

    def test_by_a_question(self):
        calls = become_known(7) + [forget(5, 7), question(6, 7, OTHERS)]
        self.assertEqual(last(calls), [answered(7, OTHERS), known(7, OTHERS)])
        self.assertEqual(behind(calls, look(7)), [2, OTHERS, 30006])

    def test_an_answer_that_comes_too_late_is_not_believed(self):
        calls = [send(0, 7, 1), forget(5, 7), answer(6, 7)]
        self.assertEqual(last(calls), [])
        self.assertEqual(behind(calls, look(7)), [-2])

    def test_there_is_room_behind_it(self):
        calls = [send(0, address, address) for address in range(2, 258)]
        self.assertEqual(last(calls + [send(5, 5000, 1)]), [dropped(1, 3)])
        calls += [forget(5, 100), send(5, 5000, 1)]
        self.assertEqual(last(calls), [asked(5000)])
        self.assertEqual(last(calls + [send(5, 100, 1)]), [dropped(1, 3)])

    def test_with_room_behind_it_nobody_else_goes(self):
        calls = [question(0, address) for address in range(2, 258)] + [forget(5, 100), send(5, 5000, 1)]
        self.assertEqual(behind(calls, look(2)), [2, THEIRS, 30000])

    def test_with_our_own_addresses(self):
        calls = [begin(OTHERS, 9), send(0, 7, 1), forget(0, 7), send(0, 7, 2)]
        self.assertEqual(last(calls), [asked(7, ALL, OTHERS, 9)])


class Refusals(unittest.TestCase):
    before = become_asked_again(5) + [question(30100, 7), send(30200, 8, 1), send(30200, 8, 2)]
    after = all_of(5, 6, 7, 8) + [tick(30199), tick(30200), send(30300, 7, 2), tick(31200), forget(31300, 8)]

    def test_now_too_great(self):
        for now in (LAST_NOW + 1, 2 ** 63 - 1, 2 ** 63, TOP):
            for address in (0, 5, 6, 7, 8, TOP):
                refused(self, self.before, forget(now, address), -1, self.after)

    def test_an_earlier_now(self):
        for now in (0, 30000, 30199):
            for address in (0, 5, 6, 7, 8, TOP):
                refused(self, self.before, forget(now, address), -4, self.after)
        self.assertEqual(last(self.before + [forget(30200, 7)]), [lost(7)])

    def test_what_would_be_due_is_not_done(self):
        told = run([send(0, 7, 1), forget(TOP, 7), tick(999), forget(998, 7), heard(1000, 7), due()])
        self.assertEqual(told[1:4], [[-1], [0], [-4]])
        self.assertEqual(things(told[4]), [asked(7)])
        self.assertEqual(told[5], [0, 2000])

    def test_the_last_now(self):
        calls = [send(LAST_NOW, 7, 1)]
        self.assertEqual(last(calls + [forget(LAST_NOW, 7)]), [lost(7), dropped(1, 4)])
        self.assertEqual(run(calls + [forget(LAST_NOW + 1, 7), look(7)])[1:], [[-1], [1, 1, 1, LAST_NOW + 1000]])
        self.assertEqual(run([tick(LAST_NOW), forget(LAST_NOW + 1, 7), forget(LAST_NOW - 1, 7)]), [[0], [-1], [-4]])


if __name__ == "__main__":
    unittest.main()
