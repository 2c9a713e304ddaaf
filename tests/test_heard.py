import unittest

from tests.helper import (EVERYBODY, LAST_NOW, OTHERS, OURS, THEIRS, TOP, all_of, answer, asked, become_asked_again,
                          become_known, become_old, begin, behind, dropped, due, forget, heard, known, last, listing,
                          look, lost, passed, question, refused, run, send, things, tick)


class Heard(unittest.TestCase):
    def test_one_that_is_not_there(self):
        for address in (0, OURS, 6, EVERYBODY, 2 ** 32, 2 ** 32 + 7, 2 ** 63 + 8, TOP):
            self.assertEqual(run([heard(0, address)] + all_of(address)), [[0], [0], [-2], [-2]])
            before = [question(0, 7), send(0, 8, 1)]
            told = run(before + [heard(5, address)] + all_of(7, 8, address))
            self.assertEqual(told[2:], [[0], [2, 7, 8], [0, 1000], [2, THEIRS, 30000], [1, 1, 1, 1000], [-2]])

    def test_for_one_that_is_not_there_what_is_due_is_done(self):
        self.assertEqual(last([send(0, 7, 1), heard(1000, 6)]), [asked(7)])
        self.assertEqual(run([heard(50, 6), tick(49), tick(50)]), [[0], [-4], [0]])

    def test_one_asked_for(self):
        calls = [send(0, 7, 1), send(0, 7, 2), heard(500, 7)]
        self.assertEqual(last(calls), [])
        self.assertEqual(behind(calls, look(7)), [1, 1, 2, 1000])
        self.assertEqual(last(calls + [answer(600, 7)]), [known(7), passed(1, THEIRS), passed(2, THEIRS)])

    def test_one_asked_for_is_asked_once_more_first(self):
        calls = [send(0, 7, 1), heard(1000, 7)]
        self.assertEqual(last(calls), [asked(7)])
        self.assertEqual(behind(calls, look(7)), [1, 2, 1, 2000])
        calls += [heard(2100, 7)]
        self.assertEqual(last(calls), [asked(7)])
        self.assertEqual(behind(calls, look(7)), [1, 3, 1, 3100])

    def test_one_asked_for_three_times_is_lost_first(self):
        calls = [send(0, 7, 1), tick(1000), tick(2000), heard(3000, 7)]
        self.assertEqual(last(calls), [lost(7), dropped(1, 1)])
        self.assertEqual(run(calls + all_of(7))[-3:], [[0], [-2], [-2]])

    def test_a_known_one(self):
        calls = become_known(7) + [heard(20000, 7)]
        self.assertEqual(last(calls), [])
        self.assertEqual(behind(calls, look(7)), [2, THEIRS, 50000])
        self.assertEqual(behind(calls, due()), [0, 50000])
        self.assertEqual(last(calls + [send(49999, 7, 1)]), [passed(1, THEIRS)])
        self.assertEqual(last(calls + [send(50000, 7, 1)]), [passed(1, THEIRS), asked(7, THEIRS)])

    def test_a_known_one_heard_of_at_once_and_just_before_its_end(self):
        self.assertEqual(behind(become_known(7) + [heard(0, 7)], look(7)), [2, THEIRS, 30000])
        self.assertEqual(behind(become_known(7) + [heard(29999, 7)], look(7)), [2, THEIRS, 59999])

    def test_one_heard_of_over_and_over_is_known_on(self):
        calls = become_known(7) + [heard(now, 7) for now in range(10000, 200001, 10000)]
        self.assertEqual(behind(calls, look(7)), [2, THEIRS, 230000])

    def test_an_old_one(self):
        calls = become_old(7) + [heard(40000, 7)]
        self.assertEqual(last(calls), [])
        self.assertEqual(behind(calls, look(7)), [2, THEIRS, 70000])
        self.assertEqual(behind(calls, due()), [0, 70000])
        self.assertEqual(last(calls + [send(40000, 7, 1)]), [passed(1, THEIRS)])
        self.assertEqual(last(calls + [send(69999, 7, 1)]), [passed(1, THEIRS)])
        self.assertEqual(last(calls + [send(70000, 7, 1)]), [passed(1, THEIRS), asked(7, THEIRS)])

    def test_one_that_is_old_just_now(self):
        calls = become_known(7) + [heard(30000, 7)]
        self.assertEqual(last(calls), [])
        self.assertEqual(behind(calls, look(7)), [2, THEIRS, 60000])

    def test_one_asked_again(self):
        calls = become_asked_again(7) + [heard(30999, 7)]
        self.assertEqual(last(calls), [])
        self.assertEqual(behind(calls, look(7)), [2, THEIRS, 60999])
        self.assertEqual(last(calls + [tick(31000)]), [])
        self.assertEqual(last(calls + [send(31000, 7, 1)]), [passed(1, THEIRS)])
        self.assertEqual(last(calls + [send(60999, 7, 1)]), [passed(1, THEIRS), asked(7, THEIRS)])

    def test_one_asked_again_is_asked_once_more_first(self):
        for now in (31000, 31700):
            calls = become_asked_again(7) + [heard(now, 7)]
            self.assertEqual(last(calls), [asked(7, THEIRS)])
            self.assertEqual(behind(calls, look(7)), [2, THEIRS, now + 30000])

    def test_one_asked_again_three_times_is_lost_first(self):
        calls = become_asked_again(7) + [tick(31000), tick(32000)]
        self.assertEqual(last(calls + [heard(32999, 7)]), [])
        self.assertEqual(behind(calls + [heard(32999, 7)], look(7)), [2, THEIRS, 62999])
        self.assertEqual(last(calls + [heard(33000, 7)]), [lost(7)])
        self.assertEqual(behind(calls + [heard(33000, 7)], look(7)), [-2])

    def test_an_answer_behind_it_was_not_asked_for(self):
        calls = become_asked_again(7) + [heard(30500, 7), answer(30600, 7, OTHERS)]
        self.assertEqual(last(calls), [])
        self.assertEqual(behind(calls, look(7)), [2, THEIRS, 60500])

    def test_its_link_address_is_the_one_that_it_had(self):
        for come in (become_known, become_old, become_asked_again):
            calls = come(7, 0, OTHERS) + come(8, 40000, THEIRS) + [heard(70100, 8)]
            self.assertEqual(behind(calls, look(8)), [2, THEIRS, 100100])
            calls = come(7, 0, OTHERS) + [heard(30100, 7)]
            self.assertEqual(behind(calls, look(7)), [2, OTHERS, 60100])

    def test_others_stand_as_they_stood(self):
        calls = become_old(5) + [question(30000, 6), send(30000, 7, 1), question(30001, 8), heard(30002, 6)]
        told = run(calls + all_of(5, 6, 7, 8))
        self.assertEqual(told[-6:], [[4, 5, 6, 7, 8], [0, 31000], [3, THEIRS], [2, THEIRS, 60002], [1, 1, 1, 31000],
                                     [2, THEIRS, 60001]])

    def test_what_is_due_of_others_is_done_first(self):
        calls = [question(0, 8), send(0, 9, 1), send(0, 5, 2), heard(1000, 8)]
        self.assertEqual(last(calls), [asked(5), asked(9)])
        self.assertEqual(behind(calls, look(8)), [2, THEIRS, 31000])

    def test_the_greatest_address(self):
        calls = become_known(EVERYBODY - 1) + [heard(5, EVERYBODY - 1)]
        self.assertEqual(behind(calls, look(EVERYBODY - 1)), [2, THEIRS, 30005])

    def test_it_keeps_its_place_in_the_list(self):
        self.assertEqual(behind([question(0, 9), question(0, 8), heard(5, 9)], listing()), [2, 9, 8])


class NoUse(unittest.TestCase):
    def test_the_one_used_least_lately_is_still_the_one_that_is_gone(self):
        calls = [question(0, 300)] + [question(1, address) for address in range(2, 257)]
        calls += [heard(5, 300), send(6, 5000, 1)]
        self.assertEqual(last(calls), [asked(5000)])
        self.assertEqual(behind(calls, look(300)), [-2])
        self.assertEqual(behind(calls, look(2)), [2, THEIRS, 30001])

    def test_also_where_it_was_old_or_asked_again(self):
        for come in (become_old, become_asked_again):
            calls = come(300) + [question(30001, address) for address in range(2, 257)]
            calls += [heard(30002, 300), send(30003, 5000, 1)]
            self.assertEqual(last(calls), [asked(5000)])
            self.assertEqual(behind(calls, look(300)), [-2])
            self.assertEqual(behind(calls, look(2)), [2, THEIRS, 60001])


class Refusals(unittest.TestCase):
    before = become_asked_again(5) + [question(30100, 7), send(30200, 8, 1)]
    after = all_of(5, 6, 7, 8) + [tick(30199), tick(30200), send(30300, 7, 2), tick(31200), tick(60100)]

    def test_now_too_great(self):
        for now in (LAST_NOW + 1, 2 ** 63 - 1, 2 ** 63, TOP):
            for address in (0, 5, 6, 7, 8, TOP):
                refused(self, self.before, heard(now, address), -1, self.after)

    def test_an_earlier_now(self):
        for now in (0, 30000, 30199):
            for address in (0, 5, 6, 7, 8, TOP):
                refused(self, self.before, heard(now, address), -4, self.after)
        self.assertEqual(run(self.before + [heard(30200, 7), look(7)])[-2:], [[0], [2, THEIRS, 60200]])

    def test_what_would_be_due_is_not_done(self):
        told = run([send(0, 7, 1), heard(TOP, 7), heard(999, 7), heard(998, 7), heard(1000, 7)])
        self.assertEqual(told[1:4], [[-1], [0], [-4]])
        self.assertEqual(things(told[4]), [asked(7)])

    def test_the_last_now(self):
        calls = become_known(7, LAST_NOW - 10) + [heard(LAST_NOW, 7)]
        self.assertEqual(last(calls), [])
        self.assertEqual(behind(calls, look(7)), [2, THEIRS, 2 ** 63 - 1])
        self.assertEqual(behind(calls, due()), [0, 2 ** 63 - 1])
        told = run(become_known(7, LAST_NOW - 10) + [heard(LAST_NOW + 1, 7), look(7)])
        self.assertEqual(told[1:], [[-1], [2, THEIRS, LAST_NOW + 29990]])
        self.assertEqual(run([tick(LAST_NOW), heard(LAST_NOW + 1, 7), heard(LAST_NOW - 1, 7)]), [[0], [-1], [-4]])

    def test_behind_a_begin_it_is_0(self):
        self.assertEqual(run([tick(500), begin(OTHERS, 9), heard(0, 7)]), [[0], [0], [0]])

    def test_one_forgotten_is_not_there(self):
        self.assertEqual(run(become_known(7) + [forget(5, 7), heard(6, 7), look(7)])[2:], [[0], [-2]])


if __name__ == "__main__":
    unittest.main()
