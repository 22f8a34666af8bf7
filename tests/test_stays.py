"""Point 3: come, copy, lost, longer, leave; refusals, their order, and that they change nothing."""

import unittest

from doorcards.desk import Line
from tests.helper import GREATEST, KEY, ask, ask_one, begin, come, copy, day, desk_with, guest, kept_by, last_answer
from tests.helper import leave, longer, lost, room

TWO_ROOMS = (begin(), room(), room())


class NoSuchRoomTest(unittest.TestCase):
    def calls_at(self, place):
        return [come(place, 5), copy(place), lost(place), longer(place, 5), leave(place)]

    def test_at_a_room_that_there_is(self):
        for place in (0, 1):
            told = ask(*TWO_ROOMS, *self.calls_at(place))
            self.assertEqual(told[3:], [guest(place, 1, 5, 0), guest(place, 1, 5, 1), guest(place, 2, 5, 2),
                                        guest(place, 2, 5, 3), [0]])

    def test_at_no_room(self):
        for place in (2, 3, 63, 64, 255, 256, 65536, GREATEST):
            self.assertEqual(ask(*TWO_ROOMS, *self.calls_at(place))[3:], [[-2]] * 5)
        self.assertEqual(ask(begin(), *self.calls_at(0))[1:], [[-2]] * 5)

    def test_at_the_last_of_all_rooms(self):
        told = ask(begin(), *[room()] * 64, *self.calls_at(63), *self.calls_at(64))
        self.assertEqual([answer[0] for answer in told[65:]], [0, 1, 2, 3, 0] + [-2] * 5)

    def test_ahead_of_the_other_refusals(self):
        told = ask(*TWO_ROOMS, day(9), come(2, 8), come(2, 65536), longer(2, 8), longer(2, GREATEST))
        self.assertEqual(told[4:], [[-2]] * 4)


class ComeTest(unittest.TestCase):
    def test_last_days(self):
        for last, answer in ((6, [-22]), (0, [-22]), (7, guest(0, 1, 7, 0)), (8, guest(0, 1, 8, 0)),
                             (65535, guest(0, 1, 65535, 0)), (65536, [-22]), (GREATEST, [-22])):
            with self.subTest(last=last):
                self.assertEqual(last_answer(*TWO_ROOMS, day(7), come(0, last)), answer)

    def test_on_the_first_and_on_the_last_day(self):
        self.assertEqual(last_answer(*TWO_ROOMS, come(1, 0)), guest(1, 1, 0, 0))
        told = ask(*TWO_ROOMS, day(65535), come(1, 65534), come(1, 65535))
        self.assertEqual(told[4:], [[-22], guest(1, 1, 65535, 0)])

    def test_a_room_with_a_stay(self):
        told = ask(*TWO_ROOMS, come(0, 5), come(0, 5), come(0, 9), come(1, 9), copy(0))
        self.assertEqual(told[4:], [[-15], [-15], guest(1, 1, 9, 1), guest(0, 1, 5, 2)])

    def test_a_stay_on_its_last_day(self):
        self.assertEqual(last_answer(*TWO_ROOMS, come(0, 5), day(5), come(0, 6)), [-15])

    def test_a_stay_whose_last_day_was_yesterday(self):
        told = ask(*TWO_ROOMS, come(0, 5), day(6), come(0, 6))
        self.assertEqual(told[4:], [[1], guest(0, 2, 6, 1)])

    def test_a_stay_that_was_left(self):
        told = ask(*TWO_ROOMS, come(0, 5), leave(0), come(0, 3), copy(0))
        self.assertEqual(told[4:], [[0], guest(0, 2, 3, 1), guest(0, 2, 3, 2)])

    def test_a_wrong_last_day_ahead_of_a_stay(self):
        told = ask(*TWO_ROOMS, day(4), come(0, 5), come(0, 3), come(0, 65536), come(0, 4))
        self.assertEqual(told[5:], [[-22], [-22], [-15]])

    def test_refused_it_is_no_stay(self):
        told = ask(*TWO_ROOMS, day(4), come(0, 3), copy(0), come(0, 65536), leave(0), come(0, 4))
        self.assertEqual(told[4:], [[-22], [-6], [-22], [-6], guest(0, 1, 4, 0)])


class StayTest(unittest.TestCase):
    def test_no_stay_yet(self):
        told = ask(*TWO_ROOMS, come(1, 5), copy(0), lost(0), longer(0, 5), leave(0), come(0, 5))
        self.assertEqual(told[4:], [[-6]] * 4 + [guest(0, 1, 5, 1)])

    def test_no_stay_behind_leave(self):
        told = ask(*TWO_ROOMS, come(0, 5), leave(0), copy(0), lost(0), longer(0, 5), leave(0), come(0, 5))
        self.assertEqual(told[4:], [[0]] + [[-6]] * 4 + [guest(0, 2, 5, 1)])

    def test_no_stay_behind_its_last_day(self):
        told = ask(*TWO_ROOMS, come(0, 5), day(6), copy(0), lost(0), longer(0, 7), leave(0), come(0, 7))
        self.assertEqual(told[4:], [[1]] + [[-6]] * 4 + [guest(0, 2, 7, 1)])

    def test_copy(self):
        told = ask(*TWO_ROOMS, come(0, 5), copy(0), copy(0))
        self.assertEqual(told[4:], [guest(0, 1, 5, 1), guest(0, 1, 5, 2)])

    def test_a_card_lost_and_then_copied(self):
        told = ask(*TWO_ROOMS, come(1, 5), lost(1), copy(1), lost(1), copy(1))
        self.assertEqual(told[3:], [guest(1, 1, 5, 0), guest(1, 2, 5, 1), guest(1, 2, 5, 2), guest(1, 3, 5, 3),
                                    guest(1, 3, 5, 4)])

    def test_lost_in_one_room_alone(self):
        told = ask(*TWO_ROOMS, come(0, 5), come(1, 6), lost(0), copy(1))
        self.assertEqual(told[5:], [guest(0, 2, 5, 2), guest(1, 1, 6, 3)])

    def test_longer_behind_a_card_lost(self):
        told = ask(*TWO_ROOMS, come(0, 5), lost(0), longer(0, 300), copy(0))
        self.assertEqual(told[4:], [guest(0, 2, 5, 1), guest(0, 2, 300, 2), guest(0, 2, 300, 3)])

    def test_longer_last_days(self):
        for last, answer in ((0, [-22]), (4, [-22]), (5, guest(0, 1, 5, 1)), (6, guest(0, 1, 6, 1)),
                             (65535, guest(0, 1, 65535, 1)), (65536, [-22]), (GREATEST, [-22])):
            with self.subTest(last=last):
                # The day is 3, so that 4 is before the stay's last day but not before the day.
                self.assertEqual(last_answer(*TWO_ROOMS, day(3), come(0, 5), longer(0, last)), answer)

    def test_longer_refused_keeps_the_last_day(self):
        told = ask(*TWO_ROOMS, come(0, 5), longer(0, 4), longer(0, 65536), copy(0), longer(0, 8), longer(0, 7),
                   copy(0))
        self.assertEqual(told[4:], [[-22], [-22], guest(0, 1, 5, 1), guest(0, 1, 8, 2), [-22], guest(0, 1, 8, 3)])

    def test_longer_without_a_stay_ahead_of_a_wrong_last_day(self):
        told = ask(*TWO_ROOMS, day(4), longer(0, 3), longer(0, 65536), longer(0, GREATEST))
        self.assertEqual(told[4:], [[-6]] * 3)

    def test_leave_one_room_alone(self):
        told = ask(*TWO_ROOMS, come(0, 5), come(1, 6), leave(0), copy(0), copy(1))
        self.assertEqual(told[5:], [[0], [-6], guest(1, 1, 6, 2)])


class NoMoreTest(unittest.TestCase):
    def assert_refused(self, line, call, refusal):
        before = kept_by(line)
        self.assertEqual(ask_one(line, call), [refusal])
        self.assertEqual(kept_by(line), before)

    def test_the_last_card(self):
        for stay_last, call, answer in ((None, come(0, 5), guest(0, 8, 5, 65534)), (5, copy(0), guest(0, 7, 5, 65534)),
                                        (5, lost(0), guest(0, 8, 5, 65534)),
                                        (5, longer(0, 6), guest(0, 7, 6, 65534))):
            line = desk_with(65534, 7, stay_last)
            self.assertEqual(ask_one(line, call), answer)
            self.assertEqual(line.desk.serial, 65535)
            self.assert_refused(line, copy(0), -28)

    def test_no_card_behind_the_last(self):
        self.assert_refused(desk_with(65535, 7, None), come(0, 5), -28)
        for call in (copy(0), lost(0), longer(0, 5), longer(0, 6)):
            self.assert_refused(desk_with(65535, 7, 5), call, -28)

    def test_what_makes_no_card_goes_on_behind_the_last(self):
        line = desk_with(65535, 7, 5)
        self.assertEqual([ask_one(line, call) for call in (room(), day(5), leave(0), begin())], [[1], [0], [0], [0]])
        self.assertEqual(ask_one(line, room()), [0])
        self.assertEqual(ask_one(line, come(0, 0)), guest(0, 1, 0, 0))

    def test_the_last_number(self):
        line = desk_with(9, 65534, None)
        self.assertEqual(ask_one(line, come(0, 5)), guest(0, 65535, 5, 9))
        self.assert_refused(line, lost(0), -28)
        self.assertEqual(ask_one(line, copy(0)), guest(0, 65535, 5, 10))
        self.assertEqual(ask_one(line, longer(0, 6)), guest(0, 65535, 6, 11))
        self.assertEqual(ask_one(line, leave(0)), [0])
        self.assert_refused(line, come(0, 5), -28)
        self.assertEqual(ask_one(desk_with(9, 65534, 5), lost(0)), guest(0, 65535, 5, 9))

    def test_the_last_number_of_one_room_alone(self):
        line = desk_with(9, 65535, None)
        ask_one(line, room())
        self.assertEqual(ask_one(line, come(1, 5)), guest(1, 1, 5, 9))

    def test_behind_all_other_refusals(self):
        for serial, number in ((65535, 7), (9, 65535), (65535, 65535)):
            self.assert_refused(desk_with(serial, number, None), come(1, 5), -2)
            self.assert_refused(desk_with(serial, number, None), come(0, 65536), -22)
            self.assert_refused(desk_with(serial, number, 5), come(0, 65536), -22)
            self.assert_refused(desk_with(serial, number, 5), come(0, 5), -15)
            self.assert_refused(desk_with(serial, number, 5), longer(0, 4), -22)
            self.assert_refused(desk_with(serial, number, 5), longer(0, 65536), -22)
            for call in (copy(0), lost(0), longer(0, 5), leave(0)):
                self.assert_refused(desk_with(serial, number, None), call, -6)


class NewDeskTest(unittest.TestCase):
    def test_what_a_desk_and_a_room_have_at_first(self):
        line = Line()
        self.assertIsNone(line.desk)
        ask_one(line, begin())
        self.assertEqual(kept_by(line), (KEY, 0, 0, 0, []))
        ask_one(line, room(5))
        self.assertEqual(kept_by(line), (KEY, 0, 0, 0, [(5, 0, None)]))


class RefusalsTest(unittest.TestCase):
    def test_refusals_change_nothing(self):
        line = desk_with(9, 7, 5)
        ask_one(line, room(4))
        ask_one(line, day(3))
        before = kept_by(line)
        for call in (begin([1] * 15), room(8), day(2), day(65536), come(2, 5), come(0, 5), come(1, 2), come(1, 65536),
                     copy(1), copy(2), lost(1), lost(2), longer(0, 4), longer(0, 65536), longer(1, 9), longer(2, 9),
                     leave(1), leave(2)):
            answer = ask_one(line, call)
            self.assertEqual(len(answer), 1)
            self.assertLess(answer[0], 0)
            self.assertEqual(kept_by(line), before)

    def test_refused_calls_use_up_no_serial_number(self):
        told = ask(*TWO_ROOMS, come(0, 5), come(0, 5), come(2, 5), come(1, 65536), copy(1), lost(1), longer(1, 6),
                   longer(0, 4), leave(1), copy(0))
        self.assertEqual(told[-1], guest(0, 1, 5, 1))


if __name__ == "__main__":
    unittest.main()
