"""What -28 stands for, by calls alone.

The lists here are longer than the interface hands in: the 65,535 of the document can't be come to otherwise. That
each call is refused by its own limit, one at a time, is tested on a desk whose counts the test sets (test_stays,
test_staff).
"""

import unittest

from tests.helper import ask, begin, come, copy, day, emergency, free, guest, leave, longer, lost, need, of_staff
from tests.helper import recall, room, shut, staff, state, stay, whose

MOST = 65535


class LimitsTest(unittest.TestCase):
    def test_the_last_card(self):
        made = [staff(1, 9)] * (MOST - 2)
        behind = (come(1, 9), copy(0), lost(0), longer(0, 9), shut(1), staff(1, 9), need(9))
        refused_first = ((come(2, 9), -2), (come(0, 65536), -22), (come(0, 9), -15), (copy(1), -6), (lost(1), -6),
                         (longer(1, 9), -6), (longer(0, 4), -22), (shut(2), -2), (shut(0), -15), (staff(0, 9), -22),
                         (staff(1, 65536), -22), (need(65536), -22))
        told = ask(begin(), room(3), room(), come(0, 5), *made, need(9), state(), *behind,
                   *[call for call, refusal in refused_first], state(), stay(0), free(), recall(),
                   whose(guest(0, 1, 5, 0)[1:]), leave(0), day(1), begin(), room(), come(0, 5))
        told = told[3 + len(made):]
        self.assertEqual(told[:3], [of_staff(1, 0, 9, MOST - 2), emergency(0, 9, MOST - 1), [2, 1, 0, 0, MOST]])
        self.assertEqual(told[3:10], [[-28]] * 7)
        self.assertEqual(told[10:22], [[refusal] for call, refusal in refused_first])
        self.assertEqual(told[22:], [[2, 1, 0, 0, MOST], [5, 1, 3], [1, 1], [1], [1, 1, 0, 1, 5, 0], [0], [0], [0],
                                     [0], guest(0, 1, 5, 0)])

    def test_the_last_number(self):
        told = ask(begin(), room(), come(0, 9), *[lost(0)] * (MOST - 1), stay(0), lost(0), stay(0),
                   whose(guest(0, MOST, 9, MOST - 1)[1:]), whose(guest(0, MOST - 1, 9, MOST - 2)[1:]))
        self.assertEqual(told[-6:], [guest(0, MOST, 9, MOST - 1), [9, MOST, 0], [-28], [9, MOST, 0],
                                     [1, 1, 0, MOST, 9, MOST - 1], [0, 1, 0, MOST - 1, 9, MOST - 2]])

    def test_the_last_round(self):
        told = ask(begin(), *[recall()] * MOST, recall(), state(), staff(1, 9), need(9), recall())
        self.assertEqual(told[1:MOST + 1], [[number] for number in range(1, MOST + 1)])
        self.assertEqual(told[MOST + 1:], [[-28], [0, 0, 0, MOST, 0], of_staff(1, MOST, 9, 0), emergency(MOST, 9, 1),
                                           [-28]])


if __name__ == "__main__":
    unittest.main()
