"""Points 1 and 2: begin, no desk, room, day; and what the interface says of the list."""

import unittest

from doorcards.desk import answers
from tests.helper import GREATEST, KEY, ONE_OF_EACH, OTHER_KEY, ask, begin, come, copy, day, emergency, free, guest
from tests.helper import last_answer, leave, longer, lost, need, of_staff, recall, room, shut, shutting, staff, state
from tests.helper import stay, whose


class BeginTest(unittest.TestCase):
    def test_sixteen_bytes(self):
        for key in (KEY, OTHER_KEY, [0] * 16, [255] * 16):
            self.assertEqual(ask(begin(key)), [[0]])

    def test_every_other_length(self):
        for length in range(41):
            with self.subTest(length=length):
                self.assertEqual(ask(begin([9] * length)), [[0] if length == 16 else [-22]])

    def test_no_desk_at_first(self):
        for number in range(1, 16):
            with self.subTest(call=number):
                self.assertEqual(ask(ONE_OF_EACH[number]), [[-61]])

    def test_no_desk_behind_a_refused_begin(self):
        for number in range(1, 16):
            with self.subTest(call=number):
                told = ask(begin([1] * 15), ONE_OF_EACH[number], begin([]), ONE_OF_EACH[number])
                self.assertEqual(told, [[-22], [-61], [-22], [-61]])

    def test_no_desk_ahead_of_every_other_refusal(self):
        for call in (room(8), day(65536), come(0, 65536), come(GREATEST, GREATEST), copy(0), lost(64),
                     longer(0, 65536), longer(GREATEST, 0), leave(GREATEST), shut(GREATEST), staff(0, 65536),
                     need(65536), whose([]), whose([1] * 40), stay(64)):
            self.assertEqual(ask(call), [[-61]])

    def test_a_call_without_a_desk_changes_nothing(self):
        told = ask(room(), day(9), come(0, 3), recall(), staff(1, 9), begin(), state(), copy(0), room(), come(0, 0))
        self.assertEqual(told, [[-61]] * 5 + [[0], [0] * 5, [-2], [0], guest(0, 1, 0, 0)])

    def test_begin_again_is_a_new_desk(self):
        told = ask(begin(), room(), room(), day(7), come(0, 9), lost(0),
                   begin(OTHER_KEY), copy(0), come(0, 9), room(), copy(0), day(3), come(0, 3))
        self.assertEqual(told[6:], [[0], [-2], [-2], [0], [-6], [0], guest(0, 1, 3, 0, OTHER_KEY)])

    def test_a_refused_begin_leaves_the_desk(self):
        for key in ([], [1] * 15, [1] * 17, [1] * 40):
            told = ask(begin(), room(), day(7), come(0, 9), begin(key), day(6), room(), lost(0))
            self.assertEqual(told[4:], [[-22], [-22], [1], guest(0, 2, 9, 1)])


class RoomTest(unittest.TestCase):
    def test_zones(self):
        told = ask(begin(), *[room(zone) for zone in range(8)])
        self.assertEqual(told[1:], [[place] for place in range(8)])

    def test_wrong_zones(self):
        told = ask(begin(), room(8), room(GREATEST), room(255), room(7), room(8), room(0))
        self.assertEqual(told[1:], [[-22], [-22], [-22], [0], [-22], [1]])

    def test_sixty_four_rooms(self):
        told = ask(begin(), *[room(place % 8) for place in range(66)])
        self.assertEqual(told[1:], [[place] for place in range(64)] + [[-28], [-28]])

    def test_a_refused_room_is_not_there(self):
        told = ask(begin(), *[room()] * 65, copy(63), copy(64), come(63, 0))
        self.assertEqual(told[-3:], [[-6], [-2], guest(63, 1, 0, 0)])
        self.assertEqual(last_answer(begin(), room(8), copy(0)), [-2])

    def test_a_wrong_zone_ahead_of_no_more_rooms(self):
        told = ask(begin(), *[room()] * 64, room(8), room(GREATEST), room(7))
        self.assertEqual(told[-3:], [[-22], [-22], [-28]])


class DayTest(unittest.TestCase):
    def test_days(self):
        told = ask(begin(), day(0), day(5), day(5), day(4), day(0), day(6), day(65535), day(65535), day(65534))
        self.assertEqual(told[1:], [[0], [0], [0], [-22], [-22], [0], [0], [0], [-22]])

    def test_days_above_the_last(self):
        told = ask(begin(), day(65536), day(GREATEST), day(65535), day(65536))
        self.assertEqual(told[1:], [[-22], [-22], [0], [-22]])

    def test_a_refused_day_is_not_kept(self):
        told = ask(begin(), room(), day(5), day(4), come(0, 4), day(65536), come(0, 5))
        self.assertEqual(told[3:], [[-22], [-22], [-22], guest(0, 1, 5, 0)])

    def test_stays_before_on_and_behind_the_day(self):
        told = ask(begin(), room(), room(), room(), come(0, 9), come(1, 10), come(2, 11), day(10),
                   copy(0), copy(1), copy(2))
        self.assertEqual(told[7:], [[1], [-6], guest(1, 1, 10, 3), guest(2, 1, 11, 4)])

    def test_how_many_are_over(self):
        stays = [come(place, place // 2) for place in range(10)]
        told = ask(begin(), *[room()] * 12, *stays, day(0), day(1), day(1), day(4), day(65535), day(65535))
        self.assertEqual(told[-6:], [[0], [2], [0], [6], [2], [0]])

    def test_a_stay_that_was_left_is_not_over_again(self):
        told = ask(begin(), room(), room(), come(0, 1), come(1, 1), leave(0), day(2), day(3))
        self.assertEqual(told[-2:], [[1], [0]])

    def test_a_stay_made_longer_is_over_later(self):
        told = ask(begin(), room(), come(0, 1), longer(0, 3), day(3), day(4))
        self.assertEqual(told[-2:], [[0], [1]])

    def test_a_refused_day_ends_no_stay(self):
        told = ask(begin(), room(), come(0, 65535), day(65536), day(GREATEST), copy(0))
        self.assertEqual(told[3:], [[-22], [-22], guest(0, 1, 65535, 1)])
        told = ask(begin(), room(), day(9), come(0, 9), day(8), copy(0))
        self.assertEqual(told[4:], [[-22], guest(0, 1, 9, 1)])


class InterfaceTest(unittest.TestCase):
    # Each of the sixteen calls, and some that are refused.
    CALLS = (begin() + room(3) + come(0, 4) + copy(0) + come(0, 4) + copy(1) + lost(0) + longer(0, 5) + stay(0)
             + whose(guest(0, 2, 5, 3)[1:]) + whose([7] * 15) + leave(0) + day(2) + shut(0) + staff(5, 9) + recall()
             + need(8) + free() + state())

    def test_counts_ahead_of_each_answer(self):
        expected = ([1, 0, 1, 0] + [17] + guest(0, 1, 4, 0) + [17] + guest(0, 1, 4, 1) + [1, -15, 1, -2]
                    + [17] + guest(0, 2, 4, 2) + [17] + guest(0, 2, 5, 3) + [3, 5, 2, 3] + [6, 1, 1, 0, 2, 5, 3]
                    + [1, -71, 1, 0, 1, 0] + [17] + shutting(0, 3, 2, 4) + [17] + of_staff(5, 0, 9, 5) + [1, 1]
                    + [17] + emergency(1, 8, 6) + [2, 1, 0] + [5, 1, 0, 2, 1, 7])
        self.assertEqual(answers(self.CALLS), expected)

    def test_one_call(self):
        self.assertEqual(answers(begin()), [1, 0])
        self.assertEqual(answers([0, 0]), [1, -22])
        self.assertEqual(answers(room()), [1, -61])

    def test_a_row_that_looks_like_calls(self):
        self.assertEqual(ask([0, 4, 1, 2, 1, 3], room(), begin([0] * 16), room()), [[-22], [-61], [0], [0]])
        self.assertEqual(ask([0, 0], [0, 0], [12, 2, 0, 16], begin(), room()), [[-22], [-22], [-61], [0], [0]])
        self.assertEqual(ask(begin(), [12, 0], [12, 3, 12, 10, 10], [12, 1, 15], recall()),
                         [[0], [-71], [-71], [-71], [1]])

    def test_what_is_handed_in_is_not_changed(self):
        calls = list(self.CALLS)
        answers(calls)
        self.assertEqual(calls, self.CALLS)

    def test_not_for_a_while_either(self):
        class Watched(list):
            def refuse(self, *given):
                raise AssertionError("the list handed in was changed")

            __setitem__ = __delitem__ = __iadd__ = __imul__ = refuse
            append = extend = insert = pop = remove = clear = sort = reverse = refuse

        self.assertEqual(answers(Watched(self.CALLS)), answers(self.CALLS))

    def test_nothing_is_kept_from_one_time_to_the_next(self):
        first = answers(list(self.CALLS))
        self.assertEqual(answers(room()), [1, -61])
        self.assertEqual(answers(list(self.CALLS)), first)

    def test_an_answer_that_is_changed_changes_no_other(self):
        first = answers(self.CALLS)
        kept = list(first)
        first.clear()
        self.assertEqual(answers(self.CALLS), kept)

    def test_answers_are_whole_numbers(self):
        told = answers(self.CALLS)
        self.assertIs(type(told), list)
        self.assertEqual({type(number) for number in told}, {int})

    def test_as_many_calls_as_there_may_be(self):
        told = ask(begin(), room(), come(0, 65535), *[lost(0)] * 4997)
        self.assertEqual(told[2:], [guest(0, 1 + serial, 65535, serial) for serial in range(4998)])

    def test_as_many_numbers_as_there_may_be(self):
        told = ask(*[begin([7] * 40)] * 700, begin(), room())
        self.assertEqual(told, [[-22]] * 700 + [[0], [0]])
        told = ask(begin(), *[whose([7] * 40)] * 700, state())
        self.assertEqual(told, [[0]] + [[-71]] * 700 + [[0] * 5])


if __name__ == "__main__":
    unittest.main()
