import unittest

from tests.helper import (ALL, EVERYBODY, LAST_NOW, OTHERS, OUR_LINK, OURS, THEIRS, TOP, answer, answered, asked,
                          become_asked_again, become_known, become_old, begin, came, due, known, last, message,
                          passed, question, refused, run, send, taken, tick, things)


class NothingIsDone(unittest.TestCase):
    # 7 is asked for, 8 is known: a message that were heeded would be seen at one of them.
    before = [send(0, 7, 1), question(0, 8)]

    def nothing(self, call):
        told = run(self.before + [call, due(), send(5, 7, 2), send(5, 8, 3), send(5, 6, 4)])
        self.assertEqual(told[2], [0])
        self.assertEqual(told[3], [0, 1000])
        self.assertEqual([things(each) for each in told[4:]], [[], [passed(3, THEIRS)], [asked(6)]])

    def each_kind(self, sender, inner):
        for what in (1, 2):
            for address in (7, 8, 6, OURS):
                self.nothing(came(5, sender, message(what, inner, address, OURS)))

    def test_another_link_address_than_from(self):
        self.each_kind(THEIRS, OTHERS)
        self.each_kind(OUR_LINK, THEIRS)
        self.each_kind(0, THEIRS)

    def test_from_an_address_nobody_may_have(self):
        for sender in (0, 2 ** 40, THEIRS + 2 ** 40, ALL):
            self.each_kind(sender, sender)

    def test_from_our_own(self):
        self.each_kind(OUR_LINK, OUR_LINK)

    def test_a_question_for_another(self):
        for about in (0, 2, 7, 8, EVERYBODY):
            for address in (7, 8, 6, 0, EVERYBODY):
                self.nothing(question(5, address, OTHERS, about))

    def test_an_answer_to_another(self):
        for about in (0, 2, 7, 8, EVERYBODY):
            for address in (7, 8, 6, 0, EVERYBODY):
                self.nothing(answer(5, address, OTHERS, about))

    def test_what_is_due_is_done_all_the_same(self):
        for call in (came(1000, THEIRS, message(1, OTHERS, 7, OURS)), came(1000, 0, message(2, 0, 7, OURS)),
                     came(1000, OUR_LINK, message(1, OUR_LINK, 7, OURS)), question(1000, 6, THEIRS, 5)):
            self.assertEqual(last(self.before + [call]), [asked(7)])


class Answers(unittest.TestCase):
    def test_one_asked_for(self):
        told = run([send(0, 7, 1), answer(400, 7), due(), send(500, 7, 2)])
        self.assertEqual(told[1], [2, 4, 7, THEIRS, 1, 1, THEIRS])
        self.assertEqual(told[2], [0, 30400])
        self.assertEqual(things(told[3]), [passed(2, THEIRS)])

    def test_packets_are_passed_once(self):
        calls = [send(0, 7, 1), send(0, 7, 2), answer(400, 7), question(500, 7)]
        self.assertEqual(last(calls), [answered(7), known(7)])

    def test_one_asked_again(self):
        told = run(become_asked_again(7) + [answer(30500, 7, OTHERS), due(), send(30500, 7, 2)])
        self.assertEqual(things(told[-3]), [known(7, OTHERS)])
        self.assertEqual(told[-2], [0, 60500])
        self.assertEqual(things(told[-1]), [passed(2, OTHERS)])

    def test_one_not_there(self):
        calls = [send(0, 8, 1), answer(5, 7)]
        self.assertEqual(last(calls), [])
        self.assertEqual(last(calls + [send(5, 7, 1)]), [asked(7)])

    def test_a_known_one(self):
        told = run(become_known(7) + [answer(5, 7, OTHERS), due(), send(5, 7, 2)])
        self.assertEqual(told[1:], [[0], [0, 30000], [1, 1, 2, THEIRS]])

    def test_an_old_one(self):
        told = run(become_old(7) + [answer(30005, 7, OTHERS), due(), send(30005, 7, 2)])
        self.assertEqual(told[2:4], [[0], [-2]])
        self.assertEqual(things(told[4]), [passed(2, THEIRS), asked(7, THEIRS)])

    def test_a_second_answer(self):
        told = run([send(0, 7, 1), answer(5, 7), answer(6, 7, OTHERS), due(), send(6, 7, 2)])
        self.assertEqual(told[2:], [[0], [0, 30005], [1, 1, 2, THEIRS]])

    def test_one_that_comes_when_it_is_lost_is_too_late(self):
        calls = [send(0, 7, 1), tick(1000), tick(2000)]
        self.assertEqual(last(calls + [answer(2999, 7)]), [known(7), passed(1, THEIRS)])
        self.assertEqual(last(calls + [answer(3000, 7)]), [(5, 7), (3, 1, 1)])

    def test_what_is_due_is_done_first(self):
        self.assertEqual(last([send(0, 7, 1), answer(1000, 7)]), [asked(7), known(7), passed(1, THEIRS)])

    def test_addresses_nobody_may_have_do_not_come_to_be_there(self):
        for address in (0, EVERYBODY):
            self.assertEqual(run([answer(0, address), due()]), [[0], [-2]])


class Questions(unittest.TestCase):
    def test_from_one_not_there(self):
        told = run([question(10, 7), due(), send(11, 7, 5)])
        row = [0, 2, 2, 0, 0, 0, 0, 0, 0, 0, 0, 1, 0, 0, 0, 7, 0, 0, 0, 0]
        self.assertEqual(told[0], [2, 2, THEIRS] + row + [4, 7, THEIRS])
        self.assertEqual(told[1], [0, 30010])
        self.assertEqual(things(told[2]), [passed(5, THEIRS)])

    def test_the_answer_is_ours(self):
        calls = [begin(OTHERS, 0x11121314), question(0, 0x21222324, THEIRS, 0x11121314)]
        self.assertEqual(last(calls), [answered(0x21222324, THEIRS, OTHERS, 0x11121314), known(0x21222324)])

    def test_from_one_asked_for(self):
        told = run([send(0, 7, 1), send(0, 7, 2), question(400, 7), due()])
        self.assertEqual(things(told[2]), [answered(7), known(7), passed(1, THEIRS), passed(2, THEIRS)])
        self.assertEqual(told[3], [0, 30400])

    def test_from_a_known_one(self):
        told = run(become_known(7) + [question(400, 7, OTHERS), due(), send(400, 7, 2)])
        self.assertEqual(things(told[1]), [answered(7, OTHERS), known(7, OTHERS)])
        self.assertEqual(told[2:], [[0, 30400], [1, 1, 2, OTHERS]])

    def test_from_a_known_one_with_the_same_link_address(self):
        self.assertEqual(last(become_known(7) + [question(400, 7)]), [answered(7), known(7)])

    def test_from_an_old_one(self):
        told = run(become_old(7) + [question(30400, 7, OTHERS), due(), send(30400, 7, 2)])
        self.assertEqual(things(told[2]), [answered(7, OTHERS), known(7, OTHERS)])
        self.assertEqual(told[3:], [[0, 60400], [1, 1, 2, OTHERS]])

    def test_from_one_asked_again(self):
        told = run(become_asked_again(7) + [question(30400, 7, OTHERS), due(), send(30400, 7, 2)])
        self.assertEqual(things(told[-3]), [answered(7, OTHERS), known(7, OTHERS)])
        self.assertEqual(told[-2:], [[0, 60400], [1, 1, 2, OTHERS]])

    def test_from_an_address_nobody_may_have(self):
        for address in (0, EVERYBODY):
            told = run([question(0, address), due()])
            self.assertEqual(things(told[0]), [answered(address)])
            self.assertEqual(told[1], [-2])

    def test_no_room(self):
        calls = [send(0, address, 1) for address in range(2, 258)]
        told = run(calls + [question(5, 5000), due(), send(5, 5000, 3)])
        self.assertEqual(things(told[-3]), [answered(5000)])
        self.assertEqual(told[-2:], [[0, 1000], [1, 3, 3, 3]])

    def test_one_that_is_there_needs_no_room(self):
        calls = [send(0, address, 1) for address in range(2, 258)]
        self.assertEqual(last(calls + [question(5, 2)]), [answered(2), known(2), passed(1, THEIRS)])
        calls = [question(0, address) for address in range(2, 258)]
        self.assertEqual(last(calls + [question(5, 9, OTHERS), send(5, 2, 1)]), [passed(1, THEIRS)])

    def test_room_is_made(self):
        calls = [question(0, address) for address in range(2, 258)] + [send(1, 2, 1), question(1, 5000, OTHERS)]
        self.assertEqual(last(calls), [answered(5000, OTHERS), known(5000, OTHERS)])
        self.assertEqual(last(calls + [send(1, 5000, 6)]), [passed(6, OTHERS)])
        self.assertEqual(last(calls + [send(1, 2, 6)]), [passed(6, THEIRS)])
        self.assertEqual(last(calls + [send(1, 3, 6)]), [asked(3)])

    def test_what_nobody_may_have_makes_no_room(self):
        calls = [question(0, address) for address in range(2, 258)]
        for address in (0, EVERYBODY):
            self.assertEqual(last(calls + [question(1, address), send(1, 2, 6)]), [passed(6, THEIRS)])

    def test_what_is_due_is_done_first(self):
        calls = [send(0, 7, 1), question(1000, 8)]
        self.assertEqual(last(calls), [asked(7), answered(8), known(8)])


class OursTaken(unittest.TestCase):
    def test_by_a_question_or_an_answer(self):
        for what in (1, 2):
            for about in (OURS, 7, 0, EVERYBODY):
                told = run([came(5, THEIRS, message(what, THEIRS, OURS, about)), due()])
                self.assertEqual(told, [[1, 6, THEIRS], [-2]])

    def test_our_address_since_begin(self):
        calls = [begin(OTHERS, 9)]
        self.assertEqual(last(calls + [question(0, 9, THEIRS, 5)]), [taken()])
        self.assertEqual(last(calls + [question(0, 1, THEIRS, 5)]), [])

    def test_what_is_due_is_told_first(self):
        self.assertEqual(last([send(0, 7, 1), question(1000, OURS)]), [asked(7), taken()])

    def test_from_our_own_link_address_nothing(self):
        self.assertEqual(last([question(0, OURS, OUR_LINK)]), [])


class Refusals(unittest.TestCase):
    before = [begin(OTHERS, 9), question(100, 7, THEIRS, 9), send(200, 8, 1)]
    after = [due(), tick(199), send(300, 7, 2), send(300, 8, 3), answer(300, 8, THEIRS, 9), tick(1200)]
    row = message(2, THEIRS, 8, 9)

    def test_from_too_great(self):
        for sender in (2 ** 48, 2 ** 48 + THEIRS, 2 ** 63, TOP):
            refused(self, self.before, came(5000, sender, self.row), -1, self.after)

    def test_from_everybody_is_no_refusal(self):
        self.assertEqual(last(self.before + [came(300, ALL, self.row)]), [])

    def test_length(self):
        for size in (0, 1, 16, 19, 21, 24, 40, 60):
            row = (self.row + [0] * 40)[:size]
            refused(self, self.before, came(5000, THEIRS, row), -3, self.after)

    def test_what(self):
        for first in ((0, 0), (0, 3), (0, 255), (1, 0), (1, 1), (1, 2), (2, 0), (255, 255), (128, 1)):
            row = list(first) + self.row[2:]
            refused(self, self.before, came(5000, THEIRS, row), -3, self.after)

    def test_the_last_four_bytes(self):
        for place in (16, 17, 18, 19):
            for byte in (1, 128, 255):
                row = list(self.row)
                row[place] = byte
                refused(self, self.before, came(5000, THEIRS, row), -3, self.after)

    def test_no_message_is_refused_from_whomever(self):
        for sender in (0, ALL, OTHERS, 2 ** 40):
            refused(self, self.before, came(5000, sender, []), -3, self.after)

    def test_now_too_great(self):
        for now in (LAST_NOW + 1, 2 ** 63, TOP):
            refused(self, self.before, came(now, THEIRS, self.row), -1, self.after)

    def test_the_last_now(self):
        told = run([question(LAST_NOW, 7), due()])
        self.assertEqual(told[1], [0, 2 ** 63 - 1])

    def test_an_earlier_now(self):
        for now in (0, 100, 199):
            refused(self, self.before, came(now, THEIRS, self.row), -4, self.after)
            refused(self, self.before, came(now, 0, self.row), -4, self.after)
        self.assertEqual(last(self.before + [came(200, THEIRS, self.row)]), [known(8), passed(1, THEIRS)])

    def test_which_of_several_is_told(self):
        for call, code in ((came(0, 2 ** 48, []), -1), (came(TOP, 2 ** 48, []), -1), (came(TOP, THEIRS, []), -3),
                           (came(LAST_NOW + 1, THEIRS, self.row[:19]), -3), (came(0, THEIRS, []), -3),
                           (came(0, 2 ** 48, self.row), -1)):
            refused(self, self.before, call, code, self.after)


if __name__ == "__main__":
    unittest.main()
