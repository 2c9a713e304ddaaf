import time
import unittest

from linkneighbours.desk import answers
from tests.helper import (ALL, EVERYBODY, OTHERS, OUR_LINK, THEIRS, answer, asked, begin, dropped, due, known, last,
                          lost, message, passed, question, run, send, tick)


def flat(calls):
    return [number for call in calls for number in call]


class Interface(unittest.TestCase):
    def test_a_count_is_ahead_of_each_answer(self):
        calls = [5, 1, 0, 0, 1, OTHERS, 9, 2, 10, EVERYBODY, 5, 4, 9, 4, 10, 2, 10, 7, 6, 5]
        row = list(asked(7, ALL, OTHERS, 9))
        expected = [1, -2, 1, -1, 1, 0, 4, 1, 1, 5, ALL, 1, -4, 1, 0, 23, 1] + row + [2, 0, 1010]
        self.assertEqual(answers(calls), expected)

    def test_a_row_has_its_count_ahead(self):
        self.assertEqual(answers([3, 0, THEIRS, 0, 5]), [1, -3, 1, -2])
        self.assertEqual(answers([3, 0, THEIRS, 60] + [5] * 60 + [5]), [1, -3, 1, -2])
        row = message(1, THEIRS, 1, 5)
        self.assertEqual(answers([3, 0, THEIRS, 20] + row + [5]), [3, 1, 6, THEIRS, 1, -2])

    def test_several_things_in_one_answer(self):
        calls = flat([send(0, 7, 1), send(0, 7, 2), answer(0, 7)])
        self.assertEqual(answers(calls)[24:], [1, 0, 10, 3, 4, 7, THEIRS, 1, 1, THEIRS, 1, 2, THEIRS])

    def test_answers_are_whole_numbers_in_a_list(self):
        calls = flat([due(), send(0, 7, 1), question(0, 7), due(), begin(OTHERS, 9), tick(0), [4, 0]])
        told = answers(calls)
        self.assertIs(type(told), list)
        self.assertEqual({type(number) for number in told}, {int})

    def test_what_is_handed_in_is_unchanged(self):
        calls = flat([send(0, 7, 1), send(0, 7, 2), answer(5, 7), begin(0, 0), due(), begin(OTHERS, 9), tick(0)])
        kept = list(calls)
        answers(calls)
        self.assertEqual(calls, kept)

    def test_it_is_not_changed_for_a_while_either(self):
        class Kept(list):
            def refuse(self, *words):
                raise AssertionError("changed")

            __setitem__ = __delitem__ = __iadd__ = append = extend = insert = pop = remove = refuse
            reverse = sort = clear = refuse

        calls = flat([send(0, 7, 1), answer(5, 7), begin(OTHERS, 9), due()])
        self.assertEqual(answers(Kept(calls)), answers(calls))

    def test_nothing_is_kept_from_one_time_to_the_next(self):
        first = flat([begin(OTHERS, 9), send(50, 7, 1), question(60, 8, THEIRS, 9)])
        second = flat([due(), tick(0), send(0, 7, 1), send(0, 8, 1), due()])
        alone = answers(second)
        self.assertEqual(alone[:4], [1, -2, 1, 0])
        told = answers(first)
        self.assertEqual(answers(second), alone)
        self.assertEqual(answers(first), told)

    def test_answers_share_nothing(self):
        calls = flat([send(0, 7, 1)])
        told = answers(calls)
        kept = list(told)
        told.clear()
        self.assertEqual(answers(calls), kept)

    def test_the_beginning(self):
        self.assertEqual(last([question(0, 7)])[0], (2, THEIRS) + tuple(message(2, OUR_LINK, 1, 7)))


class LongLists(unittest.TestCase):
    def timed(self, calls):
        self.assertLessEqual(len(calls), 2000)
        self.assertLessEqual(len(flat(calls)), 16000)
        start = time.monotonic()
        told = run(calls)
        self.assertLess(time.monotonic() - start, 20)
        self.assertLess(len(flat(told)) + len(told), 1000000)
        return told

    def test_256_neighbours_and_2000_calls(self):
        calls = [send(0, address, address) for address in range(2, 258)]
        calls += [send(1, 1000 + k, k) for k in range(700)]
        calls += [tick(1000), tick(2000)] + [send(2001, 2 + k % 256, k) for k in range(1041)] + [tick(3000)]
        told = self.timed(calls)
        self.assertEqual(told[-1][0], 5 * 256)
        self.assertEqual(told[256:956], [[1, 3, k, 3] for k in range(700)])
        self.assertEqual(told[956][0], 256)

    def test_room_made_over_and_over(self):
        calls = [question(0, address) for address in range(2, 258)]
        calls += [send(k, EVERYBODY, k) for k in range(400)]
        calls += [question(400 + k, 1000 + k) for k in range(280)]
        told = self.timed(calls)
        self.assertEqual(told[-1][0], 2)
        self.assertEqual(last(calls + [send(700, 1023, 1)]), [asked(1023)])
        self.assertEqual(last(calls + [send(700, 1024, 1)]), [passed(1, THEIRS)])

    def test_2000_packets_to_one_asked_for(self):
        calls = [send(0, 7, k) for k in range(1998)] + [tick(1000), due()]
        told = self.timed(calls)
        self.assertEqual(told[1:4], [[0], [0], [0]])
        self.assertEqual(told[4:1998], [[1, 3, k, 2] for k in range(1994)])
        self.assertEqual(last(calls[:-1] + [answer(1001, 7)]),
                         [known(7)] + [passed(k, THEIRS) for k in range(1994, 1998)])

    def test_2000_calls_that_ask_nothing(self):
        self.assertEqual(self.timed([due()] * 2000), [[-2]] * 2000)

    def test_all_lost_at_once(self):
        calls = [send(0, address, address) for address in range(2, 258)] + [tick(1000), tick(2000), tick(3000)]
        expected = [thing for k in range(2, 258) for thing in (lost(k), dropped(k, 1))]
        self.timed(calls)
        self.assertEqual(last(calls), expected)


if __name__ == "__main__":
    unittest.main()
