import unittest

from tests.helper import (ALL, EVERYBODY, OTHERS, THEIRS, TOP, asked, become_known, begin, due, last, passed,
                          question, refused, run, send, taken, tick, answered, known)

WRONG_LINKS = (0, 2 ** 40, 2 ** 40 + 2 ** 41, 2 ** 47 + 2 ** 40 + 5, ALL, 2 ** 48, 2 ** 48 + 2 ** 41, 2 ** 63, TOP)
WRONG_ADDRESSES = (0, EVERYBODY, 2 ** 32, 2 ** 32 + 1, 2 ** 63, TOP)
RIGHT_LINKS = (1, 2 ** 40 - 1, 2 ** 41, THEIRS, ALL - 2 ** 40)
RIGHT_ADDRESSES = (1, 2, 2 ** 31, EVERYBODY - 1)


class Begin(unittest.TestCase):
    def test_what_may_be_had_is_ours(self):
        for link_address in RIGHT_LINKS:
            for address in RIGHT_ADDRESSES:
                told = run([begin(link_address, address), send(0, 77, 5)])
                self.assertEqual(told[0], [0])
                self.assertEqual(told[1], [1] + list(asked(77, ALL, link_address, address)))

    def test_a_link_address_nobody_may_have(self):
        for link_address in WRONG_LINKS:
            self.assertEqual(run([begin(link_address, 7)]), [[-1]])

    def test_an_address_nobody_may_have(self):
        for address in WRONG_ADDRESSES:
            self.assertEqual(run([begin(THEIRS, address)]), [[-1]])

    def test_both_wrong(self):
        self.assertEqual(run([begin(0, 0)]), [[-1]])

    def test_a_refusal_leaves_all_as_it_was(self):
        before = [begin(OTHERS, 9), question(100, 7, THEIRS, 9), send(200, 8, 1)]
        after = [due(), tick(199), send(300, 7, 2), send(300, 8, 3), question(300, 6, THEIRS, 9), tick(1200)]
        for link_address in WRONG_LINKS:
            refused(self, before, begin(link_address, 5), -1, after)
        for address in WRONG_ADDRESSES:
            refused(self, before, begin(THEIRS, address), -1, after)

    def test_before_begin_there_are_first_addresses(self):
        self.assertEqual(last([send(0, 7, 5)]), [asked(7, ALL, 2 ** 41, 1)])
        self.assertEqual(run([send(0, 1, 5)]), [[-1]])
        self.assertEqual(run([due()]), [[-2]])

    def test_behind_other_calls_the_addresses_are_new(self):
        calls = [send(50, 7, 5), begin(OTHERS, 9)]
        self.assertEqual(last(calls + [send(0, 1, 6)]), [asked(1, ALL, OTHERS, 9)])
        self.assertEqual(run(calls + [send(0, 9, 6)])[-1], [-1])
        self.assertEqual(last(calls + [question(0, 9, THEIRS, 1)]), [taken()])
        self.assertEqual(last(calls + [question(0, 5, THEIRS, 9)]),
                         [answered(5, THEIRS, OTHERS, 9), known(5)])

    def test_behind_other_calls_it_is_0_again(self):
        calls = [tick(5000), begin(OTHERS, 9)]
        self.assertEqual(run([tick(5000), tick(0)])[-1], [-4])
        self.assertEqual(run(calls + [tick(0)])[-1], [0])

    def test_behind_other_calls_there_are_no_neighbours(self):
        calls = become_known(7) + [send(0, 8, 1)]
        self.assertEqual(last(calls + [send(0, 7, 5)]), [passed(5, THEIRS)])
        calls = calls + [begin(OTHERS, 9)]
        self.assertEqual(run(calls + [due()])[-1], [-2])
        self.assertEqual(last(calls + [tick(10 ** 6)]), [])
        self.assertEqual(last(calls + [send(0, 7, 5)]), [asked(7, ALL, OTHERS, 9)])

    def test_there_is_room_again(self):
        calls = [send(0, address, 1) for address in range(2, 258)]
        calls = calls + [begin(OTHERS, 9), send(0, 5000, 1)]
        self.assertEqual(last(calls), [asked(5000, ALL, OTHERS, 9)])


if __name__ == "__main__":
    unittest.main()
