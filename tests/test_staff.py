"""Point 3's shut, and point 4: staff, recall, need; each answer, each refusal, and their order."""

import unittest

from tests.helper import GREATEST, KEY, OTHER_KEY, ask, ask_one, begin, come, copy, day, desk_with, emergency, free
from tests.helper import guest, kept_by, last_answer, leave, longer, lost, need, of_staff, recall, room, shut, shutting
from tests.helper import staff, state, stay

TWO_ROOMS = (begin(), room(), room())


class ShutTest(unittest.TestCase):
    def test_a_room_that_nobody_was_in(self):
        self.assertEqual(last_answer(*TWO_ROOMS, shut(0)), shutting(0, 1, 0, 0))
        self.assertEqual(last_answer(*TWO_ROOMS, shut(1)), shutting(1, 1, 0, 0))

    def test_today_is_the_last_day(self):
        for today in (0, 1, 255, 256, 65535):
            self.assertEqual(last_answer(*TWO_ROOMS, day(today), shut(0)), shutting(0, 1, today, 0))

    def test_each_time_one_number_more(self):
        told = ask(*TWO_ROOMS, shut(0), shut(0), shut(1), day(4), shut(0))
        self.assertEqual(told[3:], [shutting(0, 1, 0, 0), shutting(0, 2, 0, 1), shutting(1, 1, 0, 2), [0],
                                    shutting(0, 3, 4, 3)])

    def test_a_number_behind_that_of_a_stay(self):
        told = ask(*TWO_ROOMS, come(0, 5), lost(0), leave(0), shut(0), come(0, 7))
        self.assertEqual(told[5:], [[0], shutting(0, 3, 0, 2), guest(0, 4, 7, 3)])

    def test_a_room_with_a_stay(self):
        told = ask(*TWO_ROOMS, come(0, 5), shut(0), day(5), shut(0), copy(0), shut(1))
        self.assertEqual(told[4:], [[-15], [0], [-15], guest(0, 1, 5, 1), shutting(1, 1, 5, 2)])

    def test_a_stay_whose_last_day_was_yesterday(self):
        self.assertEqual(ask(*TWO_ROOMS, come(0, 5), day(6), shut(0))[4:], [[1], shutting(0, 2, 6, 1)])

    def test_it_is_no_stay(self):
        told = ask(*TWO_ROOMS, shut(0), copy(0), lost(0), longer(0, 5), leave(0), stay(0), free())
        self.assertEqual(told[4:], [[-6]] * 5 + [[2, 0, 1]])

    def test_no_such_room(self):
        for place in (2, 63, 64, 255, 256, GREATEST):
            self.assertEqual(last_answer(*TWO_ROOMS, shut(place)), [-2])
        self.assertEqual(last_answer(begin(), shut(0)), [-2])

    def test_the_last_of_all_rooms(self):
        told = ask(begin(), *[room()] * 64, shut(63), shut(64))
        self.assertEqual(told[65:], [shutting(63, 1, 0, 0), [-2]])


class StaffTest(unittest.TestCase):
    def test_zones(self):
        for zones in (1, 2, 3, 128, 254, 255):
            self.assertEqual(last_answer(begin(), staff(zones, 5)), of_staff(zones, 0, 5, 0))

    def test_wrong_zones(self):
        for zones in (0, 256, 257, 511, 65536, GREATEST):
            self.assertEqual(last_answer(begin(), staff(zones, 5)), [-22])

    def test_last_days(self):
        for last, answer in ((6, [-22]), (0, [-22]), (7, of_staff(9, 0, 7, 0)), (8, of_staff(9, 0, 8, 0)),
                             (65535, of_staff(9, 0, 65535, 0)), (65536, [-22]), (GREATEST, [-22])):
            with self.subTest(last=last):
                self.assertEqual(last_answer(begin(), day(7), staff(9, last)), answer)

    def test_the_number_is_the_round(self):
        told = ask(begin(), staff(1, 5), recall(), staff(1, 5), staff(2, 6), recall(), recall(), staff(1, 5))
        self.assertEqual(told[1:], [of_staff(1, 0, 5, 0), [1], of_staff(1, 1, 5, 1), of_staff(2, 1, 6, 2), [2], [3],
                                    of_staff(1, 3, 5, 3)])

    def test_a_zone_without_a_room(self):
        self.assertEqual(last_answer(begin(), room(0), staff(128, 5)), of_staff(128, 0, 5, 0))

    def test_rooms_keep_their_numbers(self):
        told = ask(*TWO_ROOMS, come(0, 5), staff(255, 5), need(5), recall(), copy(0), lost(0))
        self.assertEqual(told[-2:], [guest(0, 1, 5, 3), guest(0, 2, 5, 4)])


class RecallTest(unittest.TestCase):
    def test_each_time_one_more(self):
        self.assertEqual(ask(begin(), *[recall()] * 300)[1:], [[number] for number in range(1, 301)])

    def test_it_makes_no_card(self):
        told = ask(begin(), recall(), recall(), staff(1, 0), state())
        self.assertEqual(told[3:], [of_staff(1, 2, 0, 0), [0, 0, 0, 2, 1]])

    def test_a_round_above_a_byte(self):
        told = ask(begin(), *[recall()] * 258, staff(1, 0), need(0))
        self.assertEqual(told[-2:], [of_staff(1, 258, 0, 0), emergency(258, 0, 1)])

    def test_a_new_desk_has_a_new_round(self):
        self.assertEqual(ask(begin(), recall(), recall(), begin(), recall())[-1], [1])


class NeedTest(unittest.TestCase):
    def test_last_days(self):
        for last, answer in ((6, [-22]), (0, [-22]), (7, emergency(0, 7, 0)), (8, emergency(0, 8, 0)),
                             (65535, emergency(0, 65535, 0)), (65536, [-22]), (GREATEST, [-22])):
            with self.subTest(last=last):
                self.assertEqual(last_answer(begin(), day(7), need(last)), answer)

    def test_the_number_is_the_round(self):
        told = ask(begin(), need(5), recall(), need(5), need(6))
        self.assertEqual(told[1:], [emergency(0, 5, 0), [1], emergency(1, 5, 1), emergency(1, 6, 2)])

    def test_by_the_key_begun_with(self):
        for key in (KEY, OTHER_KEY):
            told = ask(begin(key), room(), shut(0), staff(3, 1), need(2))
            self.assertEqual(told[2:], [shutting(0, 1, 0, 0, key), of_staff(3, 0, 1, 1, key), emergency(0, 2, 2, key)])


class OneSerialNumberTest(unittest.TestCase):
    def test_all_kinds_draw_from_one_count(self):
        told = ask(*TWO_ROOMS, come(0, 5), shut(1), staff(1, 5), need(5), copy(0), lost(0), longer(0, 6), shut(1))
        self.assertEqual(told[3:], [guest(0, 1, 5, 0), shutting(1, 1, 0, 1), of_staff(1, 0, 5, 2), emergency(0, 5, 3),
                                    guest(0, 1, 5, 4), guest(0, 2, 5, 5), guest(0, 2, 6, 6), shutting(1, 2, 0, 7)])

    def test_what_is_refused_uses_up_none(self):
        told = ask(*TWO_ROOMS, day(3), come(0, 5), shut(0), shut(2), staff(0, 5), staff(256, 5), staff(1, 2),
                   staff(1, 65536), need(2), need(65536), shut(1))
        self.assertEqual(told[5:], [[-15], [-2]] + [[-22]] * 6 + [shutting(1, 1, 3, 1)])


class NoMoreTest(unittest.TestCase):
    def assert_refused(self, line, call, refusal):
        before = kept_by(line)
        self.assertEqual(ask_one(line, call), [refusal])
        self.assertEqual(kept_by(line), before)

    def test_the_last_card(self):
        for call, answer in ((shut(0), shutting(0, 8, 0, 65534)), (staff(6, 5), of_staff(6, 4, 5, 65534)),
                             (need(5), emergency(4, 5, 65534))):
            line = desk_with(65534, 7, None, 4)
            self.assertEqual(ask_one(line, call), answer)
            self.assertEqual(line.desk.serial, 65535)
            self.assert_refused(line, call, -28)

    def test_no_card_behind_the_last(self):
        for call in (shut(0), staff(6, 5), need(5)):
            self.assert_refused(desk_with(65535, 7, None), call, -28)

    def test_recall_and_what_only_tells_go_on_behind_the_last_card(self):
        line = desk_with(65535, 7, 5)
        told = [ask_one(line, call) for call in (recall(), stay(0), free(), state())]
        self.assertEqual(told, [[1], [5, 7, 0], [0], [1, 1, 0, 1, 65535]])

    def test_the_last_number(self):
        line = desk_with(9, 65534, None)
        self.assertEqual(ask_one(line, shut(0)), shutting(0, 65535, 0, 9))
        self.assert_refused(line, shut(0), -28)
        # What needs no number more goes on.
        self.assertEqual(ask_one(line, staff(1, 5)), of_staff(1, 0, 5, 10))
        self.assertEqual(ask_one(line, need(5)), emergency(0, 5, 11))

    def test_the_last_round(self):
        line = desk_with(9, 7, None, 65534)
        self.assertEqual(ask_one(line, recall()), [65535])
        self.assert_refused(line, recall(), -28)
        # The round isn't one more with these: it's no reason to refuse them.
        self.assertEqual(ask_one(line, staff(1, 5)), of_staff(1, 65535, 5, 9))
        self.assertEqual(ask_one(line, need(5)), emergency(65535, 5, 10))
        self.assertEqual(ask_one(line, shut(0)), shutting(0, 8, 0, 11))

    def test_behind_all_other_refusals(self):
        for serial, number in ((65535, 7), (9, 65535), (65535, 65535)):
            self.assert_refused(desk_with(serial, number, None), shut(1), -2)
            self.assert_refused(desk_with(serial, number, 5), shut(0), -15)
        for call in (staff(0, 5), staff(256, 5), staff(1, 65536), need(65536)):
            self.assert_refused(desk_with(65535, 7, None, 65535), call, -22)
        line = desk_with(65535, 7, None, 65535)
        ask_one(line, day(3))
        self.assert_refused(line, staff(1, 2), -22)
        self.assert_refused(line, need(2), -22)


if __name__ == "__main__":
    unittest.main()
