import unittest

from tests.helper import (ALL, EVERYBODY, LAST_NOW, OTHERS, OURS, THEIRS, TOP, answer, become_asked_again,
                          become_known, become_old, begin, behind, forget, heard, listing, look, question,
                          run, send, tick)

NEVER_THERE = (0, OURS, EVERYBODY, 2 ** 32, 2 ** 32 + 7, 2 ** 33 + 7, 2 ** 63 + 7, TOP)


class NotThere(unittest.TestCase):
    def test_nobody_is_there(self):
        for address in NEVER_THERE + (7,):
            self.assertEqual(run([look(address)]), [[-2]])

    def test_others_are_there(self):
        calls = [send(0, 7, 1), question(0, 8), send(0, EVERYBODY, 2), send(0, EVERYBODY - 1, 3)]
        for address in NEVER_THERE + (6, 9, 2 ** 32 + 8):
            self.assertEqual(behind(calls, look(address)), [-2])

    def test_one_that_was_there(self):
        self.assertEqual(behind([send(0, 7, 1), tick(1000), tick(2000), tick(3000)], look(7)), [-2])
        self.assertEqual(behind(become_asked_again(7) + [tick(31000), tick(32000), tick(33000)], look(7)), [-2])
        self.assertEqual(behind([send(0, 7, 1), forget(0, 7)], look(7)), [-2])
        self.assertEqual(behind([send(0, 7, 1), question(0, 8), begin(OTHERS, 9)], look(7)), [-2])
        self.assertEqual(behind([send(0, 7, 1), question(0, 8), begin(OTHERS, 9)], look(8)), [-2])

    def test_one_gone_for_room(self):
        calls = [question(0, address) for address in range(100, 356)] + [send(0, 5000, 1)]
        self.assertEqual(behind(calls, look(100)), [-2])
        self.assertEqual(behind(calls, look(101)), [2, THEIRS, 30000])
        self.assertEqual(behind(calls, look(5000)), [1, 1, 1, 1000])

    def test_one_without_room(self):
        calls = [send(0, address, 1) for address in range(2, 258)] + [send(0, 5000, 1), question(0, 5001)]
        self.assertEqual(behind(calls, look(5000)), [-2])
        self.assertEqual(behind(calls, look(5001)), [-2])
        self.assertEqual(behind(calls, look(257)), [1, 1, 1, 1000])

    def test_an_answer_not_asked_for_brings_nobody(self):
        self.assertEqual(behind([answer(0, 7)], look(7)), [-2])

    def test_a_question_from_nobody_brings_nobody(self):
        self.assertEqual(behind([question(0, 0)], look(0)), [-2])
        self.assertEqual(behind([question(0, EVERYBODY)], look(EVERYBODY)), [-2])


class AskedFor(unittest.TestCase):
    def test_how_often_and_when(self):
        calls = [send(10, 7, 1)]
        self.assertEqual(behind(calls, look(7)), [1, 1, 1, 1010])
        calls += [tick(1009)]
        self.assertEqual(behind(calls, look(7)), [1, 1, 1, 1010])
        calls += [tick(1010)]
        self.assertEqual(behind(calls, look(7)), [1, 2, 1, 2010])
        calls += [tick(2500)]
        self.assertEqual(behind(calls, look(7)), [1, 3, 1, 3500])
        self.assertEqual(behind(calls + [tick(3499)], look(7)), [1, 3, 1, 3500])
        self.assertEqual(behind(calls + [tick(3500)], look(7)), [-2])

    def test_how_many_wait(self):
        calls = [send(0, 7, 31)]
        for waiting in (2, 3, 4, 4, 4):
            calls += [send(500, 7, 32)]
            self.assertEqual(behind(calls, look(7)), [1, 1, waiting, 1000])

    def test_a_new_packet_does_not_stand_for_having_asked(self):
        calls = [send(0, 7, 1), tick(1000), send(1200, 7, 2), send(1300, 8, 3)]
        self.assertEqual(behind(calls, look(7)), [1, 2, 2, 2000])
        self.assertEqual(behind(calls, look(8)), [1, 1, 1, 2300])

    def test_one_lost_that_comes_again_begins_anew(self):
        calls = [send(0, 7, 1), send(0, 7, 2), tick(1000), tick(2000), send(3000, 7, 3)]
        self.assertEqual(behind(calls, look(7)), [1, 1, 1, 4000])

    def test_the_last_now(self):
        self.assertEqual(behind([send(LAST_NOW, 7, 1)], look(7)), [1, 1, 1, LAST_NOW + 1000])

    def test_the_least_and_greatest_address(self):
        calls = [begin(OTHERS, 9), send(0, 1, 1), send(1, EVERYBODY - 1, 1)]
        self.assertEqual(behind(calls, look(1)), [1, 1, 1, 1000])
        self.assertEqual(behind(calls, look(EVERYBODY - 1)), [1, 1, 1, 1001])


class Known(unittest.TestCase):
    def test_by_a_question(self):
        self.assertEqual(behind(become_known(7, 10), look(7)), [2, THEIRS, 30010])
        self.assertEqual(behind(become_known(7, 10, 1), look(7)), [2, 1, 30010])
        self.assertEqual(behind(become_known(7, 10, ALL - 2 ** 40), look(7)), [2, ALL - 2 ** 40, 30010])

    def test_by_an_answer(self):
        self.assertEqual(behind([send(0, 7, 1), answer(20, 7)], look(7)), [2, THEIRS, 30020])
        calls = become_asked_again(7) + [answer(30020, 7, OTHERS)]
        self.assertEqual(behind(calls, look(7)), [2, OTHERS, 60020])

    def test_one_known_anew(self):
        calls = become_known(7) + [question(50, 7, OTHERS)]
        self.assertEqual(behind(calls, look(7)), [2, OTHERS, 30050])

    def test_an_answer_not_asked_for_changes_nothing(self):
        self.assertEqual(behind(become_known(7) + [answer(50, 7, OTHERS)], look(7)), [2, THEIRS, 30000])

    def test_a_packet_changes_nothing(self):
        self.assertEqual(behind(become_known(7) + [send(50, 7, 1)], look(7)), [2, THEIRS, 30000])

    def test_until_just_before_its_time(self):
        self.assertEqual(behind(become_known(7, 10) + [tick(30009)], look(7)), [2, THEIRS, 30010])
        self.assertEqual(behind(become_known(7, 10) + [tick(30010)], look(7)), [3, THEIRS])

    def test_the_last_now(self):
        self.assertEqual(behind(become_known(7, LAST_NOW), look(7)), [2, THEIRS, 2 ** 63 - 1])


class Old(unittest.TestCase):
    def test_its_link_address(self):
        self.assertEqual(behind(become_old(7), look(7)), [3, THEIRS])
        self.assertEqual(behind(become_old(7, 5, OTHERS), look(7)), [3, OTHERS])

    def test_it_stays_old(self):
        self.assertEqual(behind(become_old(7) + [tick(LAST_NOW)], look(7)), [3, THEIRS])

    def test_one_that_was_asked_again_before(self):
        calls = become_asked_again(7) + [answer(30500, 7, OTHERS), tick(60500)]
        self.assertEqual(behind(calls, look(7)), [3, OTHERS])


class AskedAgain(unittest.TestCase):
    def test_how_often_and_when(self):
        calls = become_asked_again(7, 10)
        self.assertEqual(behind(calls, look(7)), [4, THEIRS, 1, 31010])
        calls += [tick(31010)]
        self.assertEqual(behind(calls, look(7)), [4, THEIRS, 2, 32010])
        calls += [tick(32510)]
        self.assertEqual(behind(calls, look(7)), [4, THEIRS, 3, 33510])
        self.assertEqual(behind(calls + [tick(33509)], look(7)), [4, THEIRS, 3, 33510])
        self.assertEqual(behind(calls + [tick(33510)], look(7)), [-2])

    def test_a_packet_changes_nothing(self):
        calls = become_asked_again(7) + [send(30400, 7, 1)]
        self.assertEqual(behind(calls, look(7)), [4, THEIRS, 1, 31000])

    def test_one_asked_for_three_times_before_is_asked_again_once(self):
        calls = [send(0, 7, 1), tick(1000), tick(2000), answer(2500, 7), send(32500, 7, 2)]
        self.assertEqual(behind(calls, look(7)), [4, THEIRS, 1, 33500])

    def test_one_asked_again_a_second_time_begins_anew(self):
        calls = become_asked_again(7) + [tick(31000), heard(31500, 7), send(61500, 7, 2)]
        self.assertEqual(behind(calls, look(7)), [4, THEIRS, 1, 62500])


class NothingIsDone(unittest.TestCase):
    def test_what_is_due_is_not_done(self):
        # Look is told no time, so however often one looks, what is due next stays due.
        calls = [send(0, 7, 1), question(0, 8), tick(999)]
        self.assertEqual(behind(calls + [look(7)] * 5, look(7)), [1, 1, 1, 1000])
        self.assertEqual(behind(calls + [look(8)] * 5, look(8)), [2, THEIRS, 30000])

    def test_it_changes_nothing(self):
        calls = [send(0, 7, 1), question(0, 8), tick(1000), send(1000, 8, 2), tick(2000), tick(3000), tick(30000),
                 send(30000, 8, 3), tick(29999), heard(30500, 8), send(30500, 6, 4), forget(30600, 6), tick(70000),
                 listing()]
        looks = [look(6), look(7), look(8), look(0), look(TOP), look(7)]
        step = len(looks) + 1
        told = run([each for call in calls for each in looks + [call]])
        self.assertEqual(told[step - 1::step], run(calls))
        self.assertEqual(told[1::step], told[5::step])

    def test_it_is_no_use(self):
        calls = [question(0, 600)] + [question(1, address) for address in range(300, 555)] + [tick(2), look(600)]
        calls += [send(3, 5000, 1)]
        self.assertEqual(behind(calls, look(600)), [-2])
        self.assertEqual(behind(calls, look(300)), [2, THEIRS, 30001])


if __name__ == "__main__":
    unittest.main()
