import time
import unittest

from linkneighbours.desk import answers
from tests.helper import (ALL, EVERYBODY, LAST_NOW, OTHERS, OUR_LINK, THEIRS, TOP, all_of, answer, asked,
                          become_asked_again, become_old, begin, came, dropped, due, forget, heard, known, last,
                          listing, look, lost, message, passed, question, refused, run, send, tick)


def flat(calls):
    return [number for call in calls for number in call]


class Interface(unittest.TestCase):
    def test_a_count_is_ahead_of_each_answer(self):
        calls = [5, 1, 0, 0, 1, OTHERS, 9, 2, 10, EVERYBODY, 5, 4, 9, 4, 10, 2, 10, 7, 6, 5]
        row = list(asked(7, ALL, OTHERS, 9))
        expected = [1, -2, 1, -1, 1, 0, 4, 1, 1, 5, ALL, 1, -4, 1, 0, 23, 1] + row + [2, 0, 1010]
        self.assertEqual(answers(calls), expected)

    def test_a_count_is_ahead_of_each_answer_of_the_later_calls(self):
        calls = [6, 7, 9] + question(0, 7) + [6, 7, 7, 5, 7, 6, 7, 9, 8, 6, 7, 6, 7, 9, 7, 5, 7, 8, TOP, 7]
        told = [1, -2, 1, 0, 26, 2] + list((2, THEIRS) + tuple(message(2, OUR_LINK, 1, 7))) + [4, 7, THEIRS]
        told += [3, 2, THEIRS, 30000, 1, 0, 3, 2, THEIRS, 30005, 2, 1, 7, 3, 1, 5, 7, 1, -2, 1, 0, 1, -4, 1, -1]
        self.assertEqual(answers(calls), told)

    def test_look_at_each_standing_as_it_is_told(self):
        calls = flat(become_old(7) + [send(30000, 8, 1), look(7), look(8), send(30001, 7, 1), look(7)])
        told = answers(calls)
        self.assertEqual(told[-5:], [4, 4, THEIRS, 1, 31001])
        self.assertEqual(told[-5 - 27:][:1], [26])
        self.assertEqual(told[-5 - 27 - 8:-5 - 27], [2, 3, THEIRS, 4, 1, 1, 1, 31000])

    def test_a_row_has_its_count_ahead(self):
        self.assertEqual(answers([3, 0, THEIRS, 0, 5]), [1, -3, 1, -2])
        self.assertEqual(answers([3, 0, THEIRS, 60] + [5] * 60 + [5]), [1, -3, 1, -2])
        row = message(1, THEIRS, 1, 5)
        self.assertEqual(answers([3, 0, THEIRS, 20] + row + [5]), [3, 1, 6, THEIRS, 1, -2])

    def test_several_things_in_one_answer(self):
        calls = flat([send(0, 7, 1), send(0, 7, 2), answer(0, 7)])
        self.assertEqual(answers(calls)[24:], [1, 0, 10, 3, 4, 7, THEIRS, 1, 1, THEIRS, 1, 2, THEIRS])

    def test_answers_are_whole_numbers_in_a_list(self):
        calls = flat([due(), send(0, 7, 1), look(7), question(0, 7), due(), look(7), heard(5, 7), listing(),
                      forget(6, 7), look(7), begin(OTHERS, 9), tick(0), listing()])
        told = answers(calls)
        self.assertIs(type(told), list)
        self.assertEqual({type(number) for number in told}, {int})

    def test_what_is_handed_in_is_unchanged(self):
        calls = flat([send(0, 7, 1), send(0, 7, 2), look(7), answer(5, 7), begin(0, 0), due(), heard(6, 7), listing(),
                      forget(7, 7), forget(6, 7), look(TOP), begin(OTHERS, 9), tick(0)])
        kept = list(calls)
        answers(calls)
        self.assertEqual(calls, kept)

    def test_it_is_not_changed_for_a_while_either(self):
        class Kept(list):
            def refuse(self, *words):
                raise AssertionError("changed")

            __setitem__ = __delitem__ = __iadd__ = append = extend = insert = pop = remove = refuse
            reverse = sort = clear = refuse

        calls = flat([send(0, 7, 1), answer(5, 7), look(7), heard(5, 7), listing(), forget(6, 7), begin(OTHERS, 9),
                      tick(0), due()])
        self.assertEqual(answers(Kept(calls)), answers(calls))

    def test_nothing_is_kept_from_one_time_to_the_next(self):
        first = flat([begin(OTHERS, 9), send(50, 7, 1), question(60, 8, THEIRS, 9)])
        second = flat([due(), listing(), look(7), look(8), tick(0), send(0, 7, 1), send(0, 8, 1), forget(0, 7),
                       heard(0, 8), listing(), due()])
        alone = answers(second)
        self.assertEqual(alone[:10], [1, -2, 1, 0, 1, -2, 1, -2, 1, 0])
        told = answers(first)
        self.assertEqual(answers(second), alone)
        self.assertEqual(answers(first), told)

    def test_answers_share_nothing(self):
        calls = flat([send(0, 7, 1)])
        told = answers(calls)
        kept = list(told)
        told.clear()
        self.assertEqual(answers(calls), kept)

    def test_the_beginning(self):
        self.assertEqual(last([question(0, 7)])[0], (2, THEIRS) + tuple(message(2, OUR_LINK, 1, 7)))


class RefusedCalls(unittest.TestCase):
    row = message(1, THEIRS, 6, 9)
    # One in each standing at least; by 105000, which some refused calls tell, something is due of most.
    before = [begin(OTHERS, 9), question(0, 7, THEIRS, 9), tick(30000), send(30000, 7, 1),
              question(30100, 8, THEIRS, 9), question(30100, 2, THEIRS, 9), send(30200, 5, 2), send(30200, 5, 3),
              question(100000, 4, THEIRS, 9), send(100000, 8, 4), send(100500, 3, 5)]
    state = all_of(2, 3, 4, 5, 6, 7, 8)
    after = state + [tick(100499), tick(100500), send(100600, 4, 6), send(100600, 2, 7), tick(101500), listing()]

    def test_what_stands_before(self):
        told = run(self.before + self.state)[len(self.before):]
        self.assertEqual(told, [[6, 7, 8, 2, 5, 4, 3], [0, 101000], [3, THEIRS], [1, 1, 1, 101500],
                                [2, THEIRS, 130000], [1, 2, 2, 101000], [-2], [4, THEIRS, 2, 101000],
                                [4, THEIRS, 1, 101000]])

    def test_each_kind_leaves_all_as_it_was(self):
        calls = [(begin(0, 7), -1), (begin(THEIRS, EVERYBODY), -1), (send(105000, 0, 1), -1), (send(105000, 9, 1), -1),
                 (send(105000, 4, 2 ** 32), -1), (came(105000, 2 ** 48, self.row), -1), (came(105000, ALL, []), -3),
                 (came(105000, THEIRS, self.row[:-1] + [1]), -3), (look(6), -2), (look(9), -2), (look(TOP), -2)]
        for now, code in ((LAST_NOW + 1, -1), (TOP, -1), (100499, -4), (0, -4)):
            calls += [(send(now, 4, 1), code), (send(now, EVERYBODY, 1), code), (came(now, THEIRS, self.row), code),
                      (tick(now), code), (heard(now, 4), code), (heard(now, 7), code), (forget(now, 5), code),
                      (forget(now, 6), code)]
        for call, code in calls:
            refused(self, self.before, call, code, self.after)

    def test_next_where_nothing_is_due(self):
        refused(self, become_old(7), due(), -2, all_of(7) + [send(30000, 7, 1)])


class LongLists(unittest.TestCase):
    def timed(self, calls):
        self.assertLessEqual(len(calls), 2000)
        self.assertLessEqual(len(flat(calls)), 16000)
        start = time.monotonic()
        told = run(calls)
        self.assertLess(time.monotonic() - start, 20)
        self.assertLess(len(flat(told)) + len(told), 1000000)
        return told

    def test_256_neighbours_and_2000_calls(self):
        calls = [send(0, address, address) for address in range(2, 258)]
        calls += [send(1, 1000 + k, k) for k in range(700)]
        calls += [tick(1000), tick(2000)] + [send(2001, 2 + k % 256, k) for k in range(1041)] + [tick(3000)]
        told = self.timed(calls)
        self.assertEqual(told[-1][0], 5 * 256)
        self.assertEqual(told[256:956], [[1, 3, k, 3] for k in range(700)])
        self.assertEqual(told[956][0], 256)

    def test_all_nine_calls_with_256_neighbours_and_2000_calls(self):
        begun = [begin(OTHERS, 9)]
        asked_for = [send(0, address, address) for address in range(100, 228)]
        asking = [question(0, address, THEIRS, 9) for address in range(228, 356)]
        answering = [answer(1, address, THEIRS, 9) for address in range(100, 228)]
        looks = [look(address) for address in range(100, 356)]
        hearing = [heard(2, address) for address in range(100, 356)]
        between = [due(), tick(3), listing()]
        forgetting = [forget(4, address) for address in range(100, 356, 2)]
        coming = [send(5, address, address) for address in range(1000, 1128)]
        making_room = [send(6, address, address) for address in range(2000, 2065)]
        parts = [begun, asked_for, asking, answering, looks, hearing, between, forgetting, coming, making_room]
        listings = [listing()] * (1999 - sum(len(part) for part in parts))
        parts += [listings, [tick(1005)]]
        calls = [call for part in parts for call in part]
        self.assertEqual(len(calls), 2000)
        told = self.timed(calls)
        found = []
        for part in parts:
            found.append(told[:len(part)])
            told = told[len(part):]
        self.assertEqual(found[0], [[0]])
        self.assertEqual(found[1], [[1] + list(asked(address, ALL, OTHERS, 9)) for address in range(100, 228)])
        self.assertEqual([each[0] for each in found[2]], [2] * 128)
        self.assertEqual(found[3], [[2, 4, each, THEIRS, 1, each, THEIRS] for each in range(100, 228)])
        self.assertEqual(found[4], [[2, THEIRS, 30001]] * 128 + [[2, THEIRS, 30000]] * 128)
        self.assertEqual(found[5], [[0]] * 256)
        self.assertEqual(found[6], [[0, 30002], [0], [256] + list(range(100, 356))])
        self.assertEqual(found[7], [[1, 5, address] for address in range(100, 356, 2)])
        self.assertEqual(found[8], [[1] + list(asked(address, ALL, OTHERS, 9)) for address in range(1000, 1128)])
        self.assertEqual(found[9], [[1] + list(asked(address, ALL, OTHERS, 9)) for address in range(2000, 2065)])
        # 65 of the 128 that are not asked for, all used at 0, had to go: those with the least addresses.
        there = list(range(231, 356, 2)) + list(range(1000, 1128)) + list(range(2000, 2065))
        self.assertEqual(found[10], [[256] + there] * len(listings))
        self.assertEqual(found[11][0][0], 128)

    def test_room_made_over_and_over(self):
        calls = [question(0, address) for address in range(2, 258)]
        calls += [send(k, EVERYBODY, k) for k in range(400)]
        calls += [question(400 + k, 1000 + k) for k in range(280)]
        told = self.timed(calls)
        self.assertEqual(told[-1][0], 2)
        self.assertEqual(last(calls + [send(700, 1023, 1)]), [asked(1023)])
        self.assertEqual(last(calls + [send(700, 1024, 1)]), [passed(1, THEIRS)])

    def test_2000_packets_to_one_asked_for(self):
        calls = [send(0, 7, k) for k in range(1998)] + [tick(1000), due()]
        told = self.timed(calls)
        self.assertEqual(told[1:4], [[0], [0], [0]])
        self.assertEqual(told[4:1998], [[1, 3, k, 2] for k in range(1994)])
        self.assertEqual(last(calls[:-1] + [answer(1001, 7)]),
                         [known(7)] + [passed(k, THEIRS) for k in range(1994, 1998)])

    def test_2000_calls_that_ask_nothing(self):
        self.assertEqual(self.timed([due()] * 2000), [[-2]] * 2000)

    def test_all_lost_at_once(self):
        calls = [send(0, address, address) for address in range(2, 258)] + [tick(1000), tick(2000), tick(3000)]
        expected = [thing for k in range(2, 258) for thing in (lost(k), dropped(k, 1))]
        self.timed(calls)
        self.assertEqual(last(calls), expected)


if __name__ == "__main__":
    unittest.main()
