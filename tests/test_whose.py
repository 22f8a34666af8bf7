"""Point 5: whose; what is no card, what its parts are, and which cards are good."""

import unittest

from doorcards.card import is_card, parts_of
from tests.helper import KEY, OTHER_KEY, ask, begin, come, copy, day, emergency, forged, guest, last_answer, leave
from tests.helper import longer, lost, need, of_staff, recall, reckoned_tag, room, shut, shutting, staff, state, stay
from tests.helper import whose

TWO_ROOMS = (begin(), room(), room())

# For each kind the places that a card may have at the edges, and those that no card has.
PLACES = {1: (0, 1, 63), 2: (1, 2, 128, 255), 3: (0, 1, 63), 4: (255,)}
NO_PLACES = {1: (64, 65, 128, 255), 2: (0,), 3: (64, 65, 128, 255), 4: (0, 1, 63, 64, 254)}


class NoCardTest(unittest.TestCase):
    def cards(self):
        told = ask(*TWO_ROOMS, come(0, 5), shut(1), staff(6, 5), need(5))
        return [answer[1:] for answer in told[3:]]

    def asked(self, card):
        return last_answer(*TWO_ROOMS, come(0, 5), shut(1), staff(6, 5), need(5), whose(card))

    def test_cards_as_they_were_made(self):
        self.assertEqual([self.asked(card)[0] for card in self.cards()], [1, 1, 1, 1])

    def test_one_byte_changed(self):
        for card in self.cards():
            for place in range(16):
                for change in (1, 128, 255):
                    changed = list(card)
                    changed[place] ^= change
                    self.assertEqual(self.asked(changed), [-71])

    def test_fewer_or_more_bytes(self):
        for card in self.cards():
            for length in range(41):
                row = (card + [0] * 24)[:length]
                self.assertEqual(self.asked(row)[0], 1 if length == 16 else -71)
            self.assertEqual(self.asked([0] + card), [-71])
            self.assertEqual(self.asked(card + card[:1]), [-71])
            self.assertEqual(self.asked(card[1:]), [-71])

    def test_a_right_tag_of_fewer_or_more_bytes(self):
        # The last eight bytes are the tag of all that stands before them, which is no card's eight.
        for length in (0, 7, 9, 32):
            head = (forged(1, 0, 1, 5, 0)[:8] * 4)[:length]
            self.assertEqual(self.asked(head + reckoned_tag(KEY, head)), [-71])

    def test_by_another_key(self):
        for card in self.cards():
            told = ask(begin(OTHER_KEY), room(), room(), come(0, 5), shut(1), whose(card))
            self.assertEqual(told[-1], [-71])
        self.assertEqual(self.asked(forged(1, 0, 1, 5, 0, OTHER_KEY)), [-71])

    def test_by_the_key_of_the_desk_before(self):
        card = guest(0, 1, 5, 0)[1:]
        told = ask(*TWO_ROOMS, come(0, 5), whose(card), begin(OTHER_KEY), room(), come(0, 5), whose(card),
                   whose(guest(0, 1, 5, 0, OTHER_KEY)[1:]))
        self.assertEqual([told[4][0], told[-2], told[-1][0]], [1, [-71], 1])

    def test_kinds_that_no_card_has(self):
        for kind in [0] + list(range(5, 256)):
            for place in (0, 1, 63, 255):
                self.assertEqual(last_answer(*TWO_ROOMS, come(0, 5), whose(forged(kind, place, 1, 5, 0))), [-71])

    def test_places_of_each_kind(self):
        for kind, places in PLACES.items():
            for place in places:
                told = last_answer(*TWO_ROOMS, whose(forged(kind, place, 7, 5, 3)))
                self.assertEqual(told, [0, kind, place, 7, 5, 3])

    def test_places_that_no_card_of_the_kind_has(self):
        for kind, places in NO_PLACES.items():
            for place in places:
                with self.subTest(kind=kind, place=place):
                    self.assertEqual(last_answer(*TWO_ROOMS, whose(forged(kind, place, 0, 5, 3))), [-71])

    def test_every_kind_and_place(self):
        for kind in range(6):
            for place in range(256):
                there = ((kind in (1, 3) and place < 64) or (kind == 2 and place > 0)
                         or (kind == 4 and place == 255))
                self.assertEqual(is_card(KEY, forged(kind, place, 1, 2, 3)), there)

    def test_no_bytes(self):
        self.assertEqual(self.asked([]), [-71])


class PartsTest(unittest.TestCase):
    def test_the_parts_of_each_kind(self):
        told = ask(*TWO_ROOMS, day(258), come(1, 772), shut(0), recall(), staff(129, 1286), need(65535),
                   whose(guest(1, 1, 772, 0)[1:]), whose(shutting(0, 1, 258, 1)[1:]),
                   whose(of_staff(129, 1, 1286, 2)[1:]), whose(emergency(1, 65535, 3)[1:]))
        self.assertEqual(told[-4:], [[1, 1, 1, 1, 772, 0], [1, 3, 0, 1, 258, 1], [1, 2, 129, 1, 1286, 2],
                                     [1, 4, 255, 1, 65535, 3]])

    def test_each_part_from_its_own_bytes(self):
        told = last_answer(begin(), whose(forged(1, 63, 0x0102, 0x0304, 0x0506)))
        self.assertEqual(told, [0, 1, 63, 0x0102, 0x0304, 0x0506])

    def test_least_and_greatest(self):
        for value in (0, 255, 256, 65535):
            told = last_answer(begin(), whose(forged(3, 0, value, value, value)))
            self.assertEqual(told, [0, 3, 0, value, value, value])
        self.assertEqual(parts_of(forged(2, 255, 65535, 0, 65535)), [2, 255, 65535, 0, 65535])

    def test_good_is_told_by_a_whole_number(self):
        for last in (0, 5):
            told = last_answer(begin(), staff(1, 5), day(3), whose(forged(2, 1, 0, last, 0)))
            self.assertEqual({type(number) for number in told}, {int})


class GoodTest(unittest.TestCase):
    def good(self, *calls_and_card):
        told = last_answer(*TWO_ROOMS, *calls_and_card[:-1], whose(calls_and_card[-1]))
        self.assertEqual(len(told), 6)
        return told[0]

    def test_a_guests(self):
        first = guest(0, 1, 5, 0)[1:]
        self.assertEqual(self.good(come(0, 5), first), 1)
        self.assertEqual(self.good(come(0, 5), copy(0), first), 1)
        self.assertEqual(self.good(come(0, 5), copy(0), guest(0, 1, 5, 1)[1:]), 1)

    def test_a_guests_by_number(self):
        first, second = guest(0, 1, 5, 0)[1:], guest(0, 2, 5, 1)[1:]
        self.assertEqual(self.good(come(0, 5), lost(0), first), 0)
        self.assertEqual(self.good(come(0, 5), lost(0), second), 1)
        self.assertEqual(self.good(come(0, 5), lost(0), copy(0), first), 0)
        self.assertEqual(self.good(come(0, 5), lost(0), copy(0), guest(0, 2, 5, 2)[1:]), 1)
        # A number that the room has yet to come to.
        self.assertEqual(self.good(come(0, 5), second), 0)

    def test_a_guests_by_day(self):
        first = guest(0, 1, 5, 0)[1:]
        self.assertEqual(self.good(come(0, 5), day(5), first), 1)
        self.assertEqual(self.good(come(0, 5), day(6), first), 0)

    def test_a_guests_by_its_own_day_where_the_stay_is_longer(self):
        first, longest = guest(0, 1, 5, 0)[1:], guest(0, 1, 9, 1)[1:]
        self.assertEqual(self.good(come(0, 5), longer(0, 9), first), 1)
        self.assertEqual(self.good(come(0, 5), longer(0, 9), day(6), first), 0)
        self.assertEqual(self.good(come(0, 5), longer(0, 9), day(6), longest), 1)
        self.assertEqual(self.good(come(0, 5), longer(0, 9), day(9), longest), 1)
        self.assertEqual(self.good(come(0, 5), longer(0, 9), day(10), longest), 0)

    def test_longer_behind_a_card_lost(self):
        self.assertEqual(self.good(come(0, 5), lost(0), longer(0, 9), guest(0, 1, 5, 0)[1:]), 0)
        self.assertEqual(self.good(come(0, 5), lost(0), longer(0, 9), guest(0, 2, 5, 1)[1:]), 1)
        self.assertEqual(self.good(come(0, 5), lost(0), longer(0, 9), guest(0, 2, 9, 2)[1:]), 1)

    def test_a_guests_whose_stay_is_over(self):
        first = guest(0, 1, 5, 0)[1:]
        self.assertEqual(self.good(come(0, 5), leave(0), first), 0)
        # Its number and day would do, but the stay was left.
        self.assertEqual(self.good(come(0, 5), leave(0), come(1, 5), first), 0)
        self.assertEqual(self.good(come(0, 5), leave(0), come(0, 5), first), 0)
        self.assertEqual(self.good(come(0, 5), leave(0), come(0, 5), guest(0, 2, 5, 1)[1:]), 1)

    def test_a_guests_whose_stay_was_over_ahead_of_its_own_last_day(self):
        # The bytes tell a later day than the stay had: with the stay over, the number alone is not enough.
        self.assertEqual(self.good(come(0, 5), day(6), guest(0, 1, 9, 0)[1:]), 0)

    def test_a_guests_of_another_room(self):
        self.assertEqual(self.good(come(0, 5), lost(0), come(1, 5), guest(1, 2, 5, 1)[1:]), 0)
        self.assertEqual(self.good(come(0, 5), lost(0), come(1, 5), guest(0, 2, 5, 1)[1:]), 1)
        self.assertEqual(self.good(come(0, 5), guest(1, 1, 5, 0)[1:]), 0)

    def test_one_that_shuts(self):
        first = shutting(0, 1, 3, 0)[1:]
        self.assertEqual(self.good(day(3), shut(0), first), 1)
        self.assertEqual(self.good(day(3), shut(0), day(4), first), 0)
        self.assertEqual(self.good(day(3), shut(0), shut(0), first), 0)
        self.assertEqual(self.good(day(3), shut(0), shut(0), shutting(0, 2, 3, 1)[1:]), 1)
        self.assertEqual(self.good(day(3), shut(0), come(0, 5), first), 0)
        self.assertEqual(self.good(day(3), shut(0), shut(1), first), 1)

    def test_one_that_shuts_needs_no_stay_and_none_is_in_its_way(self):
        # By the words its room needs that number alone.
        self.assertEqual(self.good(come(0, 5), shutting(0, 1, 5, 0)[1:]), 1)
        self.assertEqual(self.good(shutting(0, 0, 5, 0)[1:]), 1)
        self.assertEqual(self.good(shutting(0, 1, 5, 0)[1:]), 0)

    def test_a_guests_with_the_number_of_one_that_shuts(self):
        self.assertEqual(self.good(shut(0), guest(0, 1, 5, 0)[1:]), 0)
        self.assertEqual(self.good(guest(0, 0, 5, 0)[1:]), 0)

    def test_staffs_and_an_emergencys(self):
        for call, made in ((staff(6, 5), lambda number: of_staff(6, number, 5, 0)[1:]),
                           (need(5), lambda number: emergency(number, 5, 0)[1:])):
            self.assertEqual(self.good(call, made(0)), 1)
            self.assertEqual(self.good(call, day(5), made(0)), 1)
            self.assertEqual(self.good(call, day(6), made(0)), 0)
            self.assertEqual(self.good(call, recall(), made(0)), 0)
            self.assertEqual(self.good(call, made(1)), 0)
            self.assertEqual(self.good(recall(), call, made(1)), 1)
            self.assertEqual(self.good(recall(), call, recall(), made(1)), 0)
            # A room's number is not the round.
            self.assertEqual(self.good(come(0, 5), lost(0), made(2)), 0)
            self.assertEqual(self.good(come(0, 5), lost(0), made(0)), 1)

    def test_a_recall_leaves_guests_and_shut_rooms(self):
        self.assertEqual(self.good(come(0, 5), recall(), guest(0, 1, 5, 0)[1:]), 1)
        self.assertEqual(self.good(shut(0), recall(), recall(), shutting(0, 1, 0, 0)[1:]), 1)

    def test_a_room_that_the_desk_does_not_have(self):
        for place in (2, 3, 63):
            for number in (0, 1):
                self.assertEqual(self.good(come(1, 5), guest(place, number, 5, 0)[1:]), 0)
                self.assertEqual(self.good(come(1, 5), shutting(place, number, 5, 0)[1:]), 0)

    def test_a_room_that_the_desk_before_had(self):
        card = guest(1, 1, 5, 0)[1:]
        told = ask(*TWO_ROOMS, come(1, 5), whose(card), begin(), whose(card), room(), whose(card), room(), whose(card),
                   come(1, 0), whose(card))
        self.assertEqual([answer[0] for answer in told if len(answer) == 6], [1, 0, 0, 0, 1])

    def test_without_any_room(self):
        self.assertEqual(last_answer(begin(), whose(guest(0, 0, 5, 0)[1:])), [0, 1, 0, 0, 5, 0])
        self.assertEqual(last_answer(begin(), whose(shutting(0, 0, 5, 0)[1:])), [0, 3, 0, 0, 5, 0])

    def test_a_serial_number_is_of_no_weight(self):
        self.assertEqual(self.good(come(0, 5), guest(0, 1, 5, 65535)[1:]), 1)

    def test_asking_changes_nothing(self):
        card = guest(0, 1, 5, 0)[1:]
        told = ask(*TWO_ROOMS, come(0, 5), state(), stay(0), whose(card), whose(card[:15]), whose(card), state(),
                   stay(0), copy(0))
        self.assertEqual(told[4:6], told[9:11])
        self.assertEqual(told[6], told[8])
        self.assertEqual(told[-1], guest(0, 1, 5, 1))


if __name__ == "__main__":
    unittest.main()
