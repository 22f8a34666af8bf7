"""Point 6: stay, free, state; and that what they tell shows nothing of what was refused."""

import unittest

from tests.helper import GREATEST, KEY, ask, begin, come, copy, day, free, last_answer, leave, longer, lost, need
from tests.helper import recall, room, shut, staff, state, stay, whose


class StayTest(unittest.TestCase):
    def test_last_day_number_and_zone(self):
        told = ask(begin(), room(3), room(7), come(1, 258), stay(1), come(0, 9), stay(0))
        self.assertEqual([told[4], told[6]], [[258, 1, 7], [9, 1, 3]])

    def test_zones(self):
        told = ask(begin(), *[room(zone) for zone in range(8)], *[come(place, 5) for place in range(8)],
                   *[stay(place) for place in range(8)])
        self.assertEqual(told[-8:], [[5, 1, zone] for zone in range(8)])

    def test_behind_each_call(self):
        told = ask(begin(), room(2), come(0, 5), stay(0), copy(0), stay(0), lost(0), stay(0), longer(0, 8), stay(0),
                   day(8), stay(0), leave(0), come(0, 9), stay(0), leave(0), shut(0), come(0, 65535), stay(0))
        self.assertEqual([told[at] for at in (3, 5, 7, 9, 11, 14, 18)],
                         [[5, 1, 2], [5, 1, 2], [5, 2, 2], [8, 2, 2], [8, 2, 2], [9, 3, 2], [65535, 5, 2]])

    def test_a_last_day_of_0(self):
        self.assertEqual(last_answer(begin(), room(), come(0, 0), stay(0)), [0, 1, 0])

    def test_no_stay(self):
        told = ask(begin(), room(), room(), come(1, 5), stay(0), shut(0), stay(0))
        self.assertEqual([told[4], told[6]], [[-6], [-6]])
        self.assertEqual(last_answer(begin(), room(), come(0, 5), leave(0), stay(0)), [-6])

    def test_over_by_the_day(self):
        told = ask(begin(), room(), come(0, 5), day(5), stay(0), day(6), stay(0))
        self.assertEqual([told[4], told[6]], [[5, 1, 0], [-6]])

    def test_no_such_room(self):
        for place in (1, 63, 64, 256, GREATEST):
            self.assertEqual(last_answer(begin(), room(), come(0, 5), stay(place)), [-2])
        self.assertEqual(last_answer(begin(), stay(0)), [-2])


class FreeTest(unittest.TestCase):
    def test_no_rooms(self):
        self.assertEqual(last_answer(begin(), free()), [0])

    def test_all_free(self):
        self.assertEqual(last_answer(begin(), room(), free()), [1, 0])
        self.assertEqual(last_answer(begin(), *[room()] * 64, free()), [64] + list(range(64)))

    def test_none_free(self):
        self.assertEqual(last_answer(begin(), room(), come(0, 5), free()), [0])
        self.assertEqual(last_answer(begin(), *[room()] * 64, *[come(place, 0) for place in range(64)], free()), [0])

    def test_some_free_rising(self):
        told = ask(begin(), *[room()] * 6, come(4, 5), come(0, 3), come(3, 9), free(), leave(4), leave(0), free(),
                   come(1, 9), free(), day(9), free(), day(10), free())
        self.assertEqual([told[at] for at in (10, 13, 15, 17, 19)],
                         [[3, 1, 2, 5], [5, 0, 1, 2, 4, 5], [4, 0, 2, 4, 5], [4, 0, 2, 4, 5], [6, 0, 1, 2, 3, 4, 5]])

    def test_over_by_the_day(self):
        told = ask(begin(), room(), room(), come(0, 5), come(1, 6), day(6), free())
        self.assertEqual(told[-1], [1, 0])

    def test_a_shut_room_is_free(self):
        self.assertEqual(last_answer(begin(), room(), shut(0), free()), [1, 0])

    def test_as_many_numbers_as_there_may_be(self):
        told = ask(begin(), *[room()] * 64, *[free()] * 4935)
        self.assertEqual(told[65:], [[64] + list(range(64))] * 4935)


class StateTest(unittest.TestCase):
    def test_a_new_desk(self):
        self.assertEqual(last_answer(begin(), state()), [0, 0, 0, 0, 0])

    def test_each_number_has_its_own_place(self):
        told = last_answer(begin(), *[room()] * 5, come(0, 99), come(1, 99), come(2, 99), leave(1), day(7), recall(),
                           recall(), recall(), staff(1, 9), need(9), shut(1), state())
        self.assertEqual(told, [5, 2, 7, 3, 6])

    def test_behind_each_call(self):
        calls = [room(), room(), come(0, 5), copy(0), lost(0), longer(0, 6), shut(1), staff(1, 5), recall(), need(5),
                 whose([0] * 16), stay(0), free(), state(), leave(0), come(0, 2), day(3), begin([1] * 3), begin()]
        expected = [[1, 0, 0, 0, 0], [2, 0, 0, 0, 0], [2, 1, 0, 0, 1], [2, 1, 0, 0, 2], [2, 1, 0, 0, 3],
                    [2, 1, 0, 0, 4], [2, 1, 0, 0, 5], [2, 1, 0, 0, 6], [2, 1, 0, 1, 6], [2, 1, 0, 1, 7],
                    [2, 1, 0, 1, 7], [2, 1, 0, 1, 7], [2, 1, 0, 1, 7], [2, 1, 0, 1, 7], [2, 0, 0, 1, 7],
                    [2, 1, 0, 1, 8], [2, 0, 3, 1, 8], [2, 0, 3, 1, 8], [0, 0, 0, 0, 0]]
        told = ask(begin(), *[one for call in calls for one in (call, state())])
        self.assertEqual(told[2::2], expected)

    def test_sixty_four_rooms_and_stays(self):
        told = last_answer(begin(), *[room()] * 66, *[come(place, 1) for place in range(66)], state())
        self.assertEqual(told, [64, 64, 0, 0, 64])


class RefusedTest(unittest.TestCase):
    """Every refusal that a list of calls can come to, with all that can be asked of the desk before and behind."""

    # Day 3; room 0 has a stay till 5, room 1 none; the round is 1.
    START = (begin(), room(4), room(6), day(3), come(0, 5), recall(), shut(1))
    PROBES = (state(), free(), stay(0), stay(1), stay(2))
    REFUSED = (
        (begin([]), -22), (begin(KEY[:15]), -22), (begin(KEY + [16]), -22), (begin([9] * 40), -22), (room(8), -22),
        (room(GREATEST), -22), (day(2), -22), (day(65536), -22), (come(2, 5), -2), (come(2, 2), -2), (come(0, 5), -15),
        (come(0, 2), -22), (come(1, 2), -22), (come(1, 65536), -22), (copy(1), -6), (copy(2), -2), (lost(1), -6),
        (lost(2), -2), (longer(0, 4), -22), (longer(0, 65536), -22), (longer(1, 9), -6), (longer(1, 0), -6),
        (longer(2, 0), -2), (leave(1), -6), (leave(2), -2), (shut(0), -15), (shut(2), -2), (staff(0, 5), -22),
        (staff(256, 5), -22), (staff(1, 2), -22), (staff(1, 65536), -22), (staff(0, 2), -22), (need(2), -22),
        (need(65536), -22), (whose([]), -71), (whose([1] * 16), -71), (whose([0] * 40), -71), (stay(1), -6),
        (stay(2), -2), (stay(GREATEST), -2),
    )
    # Each shows a number, the round or the serial number that one of the probes may not.
    BEHIND = (shut(1), staff(1, 5), need(5), lost(0), copy(0), come(1, 9), recall(), room(1), day(6), free(), state())

    def test_each_alone(self):
        untouched = ask(*self.START, *self.PROBES, *self.BEHIND)[len(self.START):]
        for call, refusal in self.REFUSED:
            with self.subTest(call=call):
                told = ask(*self.START, call, *self.PROBES, *self.BEHIND)[len(self.START):]
                self.assertEqual(told, [[refusal]] + untouched)

    def test_all_one_behind_another(self):
        untouched = ask(*self.START, *self.PROBES, *self.BEHIND)[len(self.START):]
        calls = [call for call, refusal in self.REFUSED]
        told = ask(*self.START, *calls, *self.PROBES, *self.BEHIND)[len(self.START):]
        self.assertEqual(told, [[refusal] for call, refusal in self.REFUSED] + untouched)

    def test_no_more_rooms(self):
        full = (begin(), *[room(zone % 8) for zone in range(64)])
        told = ask(*full, state(), free(), room(0), room(8), state(), free(), stay(64))
        self.assertEqual(told[65:], [[64, 0, 0, 0, 0], [64] + list(range(64)), [-28], [-22], [64, 0, 0, 0, 0],
                                     [64] + list(range(64)), [-2]])


if __name__ == "__main__":
    unittest.main()
