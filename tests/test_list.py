import unittest

from tests.helper import (EVERYBODY, OTHERS, THEIRS, answer, become_asked_again, become_known, become_old, begin,
                          behind, due, forget, heard, listing, look, question, run, send, tick)


class List(unittest.TestCase):
    def listed(self, calls):
        told = behind(calls, listing())
        self.assertEqual(told[0], len(told) - 1)
        return told[1:]

    def test_none(self):
        self.assertEqual(run([listing()]), [[0]])
        self.assertEqual(run([tick(5), send(5, EVERYBODY, 1), answer(5, 7), question(5, 0), listing()])[-1], [0])

    def test_one_in_each_standing(self):
        for come in ([send(0, 7, 1)], become_known(7), become_old(7), become_asked_again(7)):
            self.assertEqual(behind(come, listing()), [1, 7])

    def test_several_as_they_came(self):
        self.assertEqual(behind([send(0, 9, 1), question(0, 300), send(0, 3, 1), question(5, 8)], listing()),
                         [4, 9, 300, 3, 8])

    def test_the_greatest_address(self):
        self.assertEqual(self.listed([send(0, EVERYBODY - 1, 1), send(0, 2, 1)]), [EVERYBODY - 1, 2])

    def test_one_used_again_keeps_its_place(self):
        calls = [send(0, 9, 1), question(0, 8), send(0, 7, 1)]
        self.assertEqual(self.listed(calls + [send(5, 9, 2), send(6, 8, 2)]), [9, 8, 7])

    def test_one_known_anew_keeps_its_place(self):
        calls = [send(0, 9, 1), question(0, 8), send(0, 7, 1)]
        self.assertEqual(self.listed(calls + [answer(5, 9)]), [9, 8, 7])
        self.assertEqual(self.listed(calls + [question(5, 9), question(5, 8, OTHERS), heard(6, 9)]), [9, 8, 7])

    def test_one_asked_once_more_old_or_asked_again_keeps_its_place(self):
        calls = [send(0, 9, 1), question(0, 8), tick(1000), answer(1500, 9)]
        self.assertEqual(self.listed(calls), [9, 8])
        calls += [tick(31500), send(31500, 9, 2), tick(32500), answer(32600, 9), send(32600, 8, 1)]
        self.assertEqual(self.listed(calls), [9, 8])

    def test_one_lost_that_comes_again_stands_last(self):
        calls = [send(0, 9, 1), question(0, 8), question(0, 7), tick(1000), tick(2000), tick(3000)]
        self.assertEqual(self.listed(calls), [8, 7])
        self.assertEqual(self.listed(calls + [send(3000, 9, 2)]), [8, 7, 9])
        self.assertEqual(self.listed(calls[:-1] + [send(3000, 9, 2)]), [8, 7, 9])
        self.assertEqual(self.listed(calls + [question(3000, 9)]), [8, 7, 9])

    def test_one_asked_again_that_is_lost_and_comes_again_stands_last(self):
        calls = become_asked_again(9) + [question(30000, 8), tick(31000), tick(32000), tick(33000)]
        self.assertEqual(self.listed(calls), [8])
        self.assertEqual(self.listed(calls + [question(33000, 9)]), [8, 9])

    def test_one_forgotten_that_comes_again_stands_last(self):
        calls = [send(0, 9, 1), question(0, 8), question(0, 7), forget(5, 8)]
        self.assertEqual(self.listed(calls), [9, 7])
        self.assertEqual(self.listed(calls + [question(6, 8)]), [9, 7, 8])
        self.assertEqual(self.listed(calls + [send(6, 8, 1), forget(7, 9), forget(7, 7), send(8, 9, 1)]), [8, 9])

    def test_one_gone_for_room_that_comes_again_stands_last(self):
        calls = [question(0, address) for address in range(400, 144, -1)]
        self.assertEqual(self.listed(calls), list(range(400, 144, -1)))
        calls += [send(1, 5000, 1)]
        self.assertEqual(self.listed(calls), list(range(400, 145, -1)) + [5000])
        calls += [question(2, 145)]
        self.assertEqual(self.listed(calls), list(range(400, 146, -1)) + [5000, 145])

    def test_one_without_room_is_not_listed(self):
        calls = [send(0, address, 1) for address in range(2, 258)] + [send(1, 5000, 1), question(1, 5001)]
        self.assertEqual(self.listed(calls), list(range(2, 258)))

    def test_behind_a_begin_there_are_none(self):
        calls = [send(0, 9, 1), question(0, 8), begin(OTHERS, 6)]
        self.assertEqual(behind(calls, listing()), [0])
        self.assertEqual(self.listed(calls + [send(0, 8, 1), send(0, 9, 1)]), [8, 9])

    def test_a_refused_begin_leaves_them(self):
        self.assertEqual(run([send(0, 9, 1), begin(0, 6), listing()])[1:], [[-1], [1, 9]])

    def test_what_is_due_is_not_done(self):
        calls = [send(0, 9, 1), tick(1000), tick(2000), tick(2999)]
        self.assertEqual(behind(calls + [listing()], look(9)), [1, 3, 1, 3000])
        self.assertEqual(self.listed(calls), [9])

    def test_it_changes_nothing(self):
        calls = [send(0, 7, 1), question(0, 8), tick(1000), send(1000, 8, 2), tick(2000), tick(3000), tick(30000),
                 send(30000, 8, 3), tick(29999), heard(30500, 8), send(30500, 6, 4), look(6), forget(30600, 6),
                 question(30600, 5, THEIRS), tick(70000), due()]
        told = run([each for call in calls for each in (listing(), listing(), call)])
        self.assertEqual(told[2::3], run(calls))
        self.assertEqual(told[0::3], told[1::3])


if __name__ == "__main__":
    unittest.main()
