import unittest

from tests.helper import (answer, become_asked_again, become_known, become_old, due, question, run, send, tick)


class Next(unittest.TestCase):
    def due_behind(self, calls):
        return run(calls + [due()])[-1]

    def test_nothing_there(self):
        self.assertEqual(run([due()]), [[-2]])

    def test_old_ones_only(self):
        self.assertEqual(self.due_behind([question(0, 7), question(5, 8), tick(30004)]), [0, 30005])
        self.assertEqual(self.due_behind([question(0, 7), question(5, 8), tick(30005)]), [-2])

    def test_each_standing(self):
        self.assertEqual(self.due_behind([send(10, 7, 1)]), [0, 1010])
        self.assertEqual(self.due_behind([send(10, 7, 1), tick(1010)]), [0, 2010])
        self.assertEqual(self.due_behind(become_known(7, 10)), [0, 30010])
        self.assertEqual(self.due_behind(become_old(7, 10)), [-2])
        self.assertEqual(self.due_behind(become_asked_again(7, 10)), [0, 31010])

    def test_the_earliest_of_several(self):
        calls = [question(0, 5), send(30, 9, 1), send(50, 7, 1)]
        self.assertEqual(self.due_behind(calls), [0, 1030])
        self.assertEqual(self.due_behind(calls + [answer(60, 9)]), [0, 1050])
        self.assertEqual(self.due_behind(calls + [answer(60, 9), answer(60, 7)]), [0, 30000])
        self.assertEqual(self.due_behind(become_old(7) + [send(30001, 9, 1)]), [0, 31001])

    def test_lost_ones_are_not_due(self):
        self.assertEqual(self.due_behind([send(0, 7, 1), tick(1000), tick(2000), tick(3000)]), [-2])

    def test_it_changes_nothing(self):
        calls = [send(0, 7, 1), question(0, 8), tick(1000), send(1000, 8, 2), tick(2000), tick(3000), tick(30000),
                 send(30000, 8, 3), tick(29999), tick(31000)]
        spread = [each for call in calls for each in (due(), due(), call)]
        self.assertEqual(run(spread)[2::3], run(calls))
        told = run(spread)
        self.assertEqual(told[0::3], told[1::3])


if __name__ == "__main__":
    unittest.main()
