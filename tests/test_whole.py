"""What holds, a to d, over long lists of calls of every kind; and each answer against a second desk.

The lists are the same each time, by fixed seeds, and as long as the interface allows.
"""

import random
import unittest

from doorcards.desk import answers
from tests.helper import GREATEST, KEY, OTHER_KEY, ask, begin, come, copy, day, forged, free, leave, longer, lost
from tests.helper import need, recall, reckoned_tag, room, shut, staff, state, stay, whose

MOST_CALLS = 5000
MOST_NUMBERS = 30000
SEEDS = range(6)

MAKING = (3, 4, 5, 6, 8, 9, 11)
ONE_MORE = (3, 5, 8)
ONLY_TELLING = (12, 13, 14, 15)


class SecondDesk:
    """The document's words once more, kept otherwise: each call's refusals as rows, in the order they are told."""

    def __init__(self):
        self.key = None
        self.made = []

    def answer(self, call):
        number, given = call[0], call[1:]
        if number == 0:
            return self.begin(given[1:])
        if self.key is None:
            return [-61]
        if number == 12:
            return self.whose(given[1:])
        for refused, refusal in self.refusals(number, given):
            if refused:
                return [refusal]
        return self.done(number, given)

    def begin(self, key):
        if len(key) != 16:
            return [-22]
        self.key, self.day, self.round, self.cards = list(key), 0, 0, 0
        self.zones, self.numbers, self.stays = [], [], {}
        return [0]

    def refusals(self, number, given):
        place = given[0] if given else None
        here = number in (3, 4, 5, 6, 7, 8, 13)
        last = given[-1] if number in (3, 6, 9, 11) else None
        full = number in MAKING and self.cards == 65535
        if number in ONE_MORE and place < len(self.numbers):
            full = full or self.numbers[place] == 65535
        earliest = self.stays.get(place, 0) if number == 6 else self.day
        return [
            (here and place >= len(self.zones), -2),
            (number in (4, 5, 6, 7, 13) and place not in self.stays, -6),
            (number == 1 and place > 7, -22),
            (number == 2 and not self.day <= place <= 65535, -22),
            (number == 9 and not 1 <= place <= 255, -22),
            (last is not None and not earliest <= last <= 65535, -22),
            (number in (3, 8) and place in self.stays, -15),
            (full, -28),
            (number == 1 and len(self.zones) == 64, -28),
            (number == 10 and self.round == 65535, -28),
        ]

    def done(self, number, given):
        place = given[0] if given else None
        if number in ONE_MORE:
            self.numbers[place] += 1
        if number in (3, 6):
            self.stays[place] = given[1]
        if number in (3, 4, 5, 6):
            return self.card(1, place, self.numbers[place], self.stays[place])
        if number == 8:
            return self.card(3, place, self.numbers[place], self.day)
        if number == 9:
            return self.card(2, place, self.round, given[1])
        if number == 11:
            return self.card(4, 255, self.round, given[0])
        return self.told(number, place)

    def told(self, number, place):
        if number == 1:
            self.zones.append(place)
            self.numbers.append(0)
            return [len(self.zones) - 1]
        if number == 2:
            before = len(self.stays)
            self.day = place
            self.stays = {one: last for one, last in self.stays.items() if last >= place}
            return [before - len(self.stays)]
        if number == 7:
            del self.stays[place]
            return [0]
        if number == 10:
            self.round += 1
            return [self.round]
        if number == 13:
            return [self.stays[place], self.numbers[place], self.zones[place]]
        if number == 14:
            rooms = sorted(set(range(len(self.zones))) - set(self.stays))
            return [len(rooms)] + rooms
        return [len(self.zones), len(self.stays), self.day, self.round, self.cards]

    def card(self, kind, place, number, last):
        serial = self.cards
        self.cards += 1
        card = forged(kind, place, number, last, serial, self.key)
        self.made.append(card)
        return [serial] + card

    def whose(self, card):
        if len(card) != 16 or reckoned_tag(self.key, card[:8]) != card[8:]:
            return [-71]
        kind, place = card[:2]
        number, last, serial = (int.from_bytes(bytes(card[at:at + 2]), "little") for at in (2, 4, 6))
        places = {1: range(64), 2: range(1, 256), 3: range(64), 4: [255]}
        if place not in places.get(kind, []):
            return [-71]
        theirs = dict(enumerate(self.numbers)).get(place) if kind in (1, 3) else self.round
        good = number == theirs and last >= self.day and (kind != 1 or place in self.stays)
        return [int(good), kind, place, number, last, serial]


def random_card(source, desk):
    """One that was made, of late rather than long ago; else one that was changed, or by the key but never made."""
    if desk.made and source.random() < 0.7:
        card = list(source.choice(desk.made[-source.choice([4, 20, 1000]):]))
        if source.random() < 0.15:
            card[source.randrange(16)] ^= 1 << source.randrange(8)
        if source.random() < 0.05:
            card = (card + [0] * 24)[:source.choice([0, 8, 15, 17, 40])]
        return card
    kind = source.choice([0, 1, 1, 1, 2, 3, 3, 4, 5, 255])
    place = source.choice([0, 1, 2, 63, 64, 255])
    last = source.choice([getattr(desk, "day", 0) + source.randrange(-2, 3), 65535])
    key = source.choice([KEY, KEY, KEY, OTHER_KEY])
    return forged(kind, place, source.randrange(4), max(last, 0) % 65536, source.randrange(65536), key)


def random_call(source, desk):
    today = getattr(desk, "day", 0)
    rooms = len(getattr(desk, "zones", []))
    place = source.randrange(rooms) if rooms and source.random() < 0.7 else source.choice([0, 0, 1, 1, rooms, GREATEST])
    last = source.choice([max(today - 1, 0), today, today + 1, today + source.randrange(9), today + 9, 65535, 65536])
    draw = source.random()
    if draw < 0.001:
        return begin(source.choice([KEY, OTHER_KEY]))
    if draw < 0.005:
        return begin([3] * source.choice([0, 15, 17, 40]))
    if draw < 0.03:
        return room(source.randrange(10))
    if draw < 0.06:
        return day(source.choice([today, today + 1, today + 1, today + 2, max(today - 1, 0), 65536]))
    return source.choice([
        come(place, last), come(place, last), come(place, last), copy(place), lost(place), longer(place, last),
        leave(place), shut(place), shut(place), staff(source.choice([0, 1, 6, 255, 256, GREATEST]), last),
        need(last), stay(place), whose(random_card(source, desk)), whose(random_card(source, desk)),
        source.choice([recall(), free(), state()]),
    ])


def long_list(seed):
    """As many calls as one list may have, and what the second desk answers to each."""
    source = random.Random(seed)
    desk = SecondDesk()
    calls = [source.choice([state(), recall(), stay(0), begin([3] * 15)]), begin(), room(), room()]
    told = [desk.answer(call) for call in calls]
    size = sum(len(call) for call in calls)
    while len(calls) < MOST_CALLS and size < MOST_NUMBERS - 50:
        calls.append(random_call(source, desk))
        told.append(desk.answer(calls[-1]))
        size += len(calls[-1])
    return calls, told


LISTS = [long_list(seed) for seed in SEEDS]


def number_of(card):
    return card[2] + 256 * card[3]


def last_of(card):
    return card[4] + 256 * card[5]


class SecondDeskTest(unittest.TestCase):
    def test_each_answer(self):
        for calls, expected in LISTS:
            for at, (call, answer) in enumerate(zip(calls, ask(*calls))):
                self.assertEqual(answer, expected[at], f"call {at}: {call}")

    def test_the_lists_hold_each_call_and_each_refusal(self):
        pairs = {(call[0], min(answer[0], 0)) for calls, told in LISTS for call, answer in zip(calls, told)}
        refusals = {0: (-22,), 1: (-22,), 2: (-22,), 3: (-2, -22, -15), 4: (-2, -6), 5: (-2, -6), 6: (-2, -6, -22),
                    7: (-2, -6), 8: (-2, -15), 9: (-22,), 10: (), 11: (-22,), 12: (-71,), 13: (-2, -6), 14: (), 15: ()}
        for number, named in refusals.items():
            for refusal in named + (0,):
                self.assertIn((number, refusal), pairs)

    def test_the_lists_hold_cards_of_each_kind_good_and_no_longer_good(self):
        told = {(answer[1], answer[0]) for calls, rows in LISTS for call, answer in zip(calls, rows)
                if call[0] == 12 and answer[0] >= 0}
        self.assertEqual(told, {(kind, good) for kind in (1, 2, 3, 4) for good in (0, 1)})

    def test_twice_the_same_and_the_list_as_it_was(self):
        for calls, expected in LISTS:
            flat = [number for call in calls for number in call]
            kept = list(flat)
            first = answers(flat)
            self.assertEqual(flat, kept)
            self.assertEqual(answers(flat), first)
            self.assertEqual(flat, kept)

    def test_one_list_is_not_seen_in_another(self):
        whole = [ask(*calls) for calls, expected in LISTS]
        self.assertEqual([ask(*calls) for calls, expected in reversed(LISTS)], whole[::-1])


class WhatHoldsTest(unittest.TestCase):
    """From the answers alone, without the second desk."""

    def desks(self):
        """For each desk of each list: its key, and its calls with their answers."""
        found = []
        for calls, expected in LISTS:
            for call, answer in zip(calls, ask(*calls)):
                if call[0] == 0 and answer == [0]:
                    found.append((call[2:], []))
                elif answer != [-61] and found:
                    found[-1][1].append((call, answer))
        return found

    def test_a_cards_by_the_key_with_new_serial_numbers(self):
        for key, rows in self.desks():
            serials = []
            for call, answer in rows:
                if call[0] in MAKING and answer[0] >= 0:
                    card = answer[1:]
                    self.assertEqual(len(card), 16)
                    self.assertEqual(card[8:], reckoned_tag(key, card[:8]))
                    self.assertEqual(card[6] + 256 * card[7], answer[0])
                    self.assertIn(card[0], {3: [1], 4: [1], 5: [1], 6: [1], 8: [3], 9: [2], 11: [4]}[call[0]])
                    serials.append(answer[0])
            self.assertEqual(serials, list(range(len(serials))))

    def test_b_numbers_never_fall(self):
        for key, rows in self.desks():
            newest = {}
            for call, answer in rows:
                if answer[0] < 0 or call[0] not in (3, 4, 5, 6, 8, 13):
                    continue
                number = answer[1] if call[0] == 13 else number_of(answer[1:])
                if call[0] in ONE_MORE:
                    self.assertGreater(number, newest.get(call[1], 0))
                else:
                    self.assertEqual(number, newest[call[1]])
                newest[call[1]] = number

    def test_b_the_round_never_falls(self):
        for key, rows in self.desks():
            now = 0
            for call, answer in rows:
                if call[0] == 10:
                    self.assertEqual(answer, [now + 1])
                    now += 1
                elif call[0] in (9, 11) and answer[0] >= 0:
                    self.assertEqual(number_of(answer[1:]), now)
                elif call[0] == 15:
                    self.assertEqual(answer[3], now)

    def test_c_good_is_the_newest_number_of_a_stay(self):
        """Behind lists of several lengths each card made so far is asked for, then each room's stay, and the day."""
        for seed, (calls, expected) in enumerate(LISTS):
            # Without a second begin, so that all cards are of one desk.
            calls = [begin()] + [call for call in calls if call[0] not in (0, 12)]
            seen = set()
            for length in (40, 150 + seed, 400, 900):
                seen |= self.good_and_not(calls[:length])
            self.assertEqual(seen, {0, 1})

    def good_and_not(self, calls):
        cards = [answer[1:] for call, answer in zip(calls, ask(*calls)) if call[0] in MAKING and answer[0] >= 0]
        told = ask(*calls, *[whose(card) for card in cards], *[stay(place) for place in range(64)], state())
        today = told[-1][2]
        stays = {place: answer for place, answer in enumerate(told[-65:-1]) if answer[0] >= 0}
        seen = set()
        for card, answer in zip(cards, told[len(calls):]):
            self.assertEqual(answer[1:3], card[:2])
            if card[0] == 1:
                newest = card[1] in stays and stays[card[1]][1] == number_of(card)
                self.assertEqual(answer[0], int(newest and last_of(card) >= today))
                seen.add(answer[0])
        return seen

    def test_d_nobody_comes_into_a_room_with_a_stay(self):
        for calls, expected in LISTS:
            rows = [one for call in calls[:3500] for one in ([stay(call[1]), call] if call[0] in (3, 8) else [call])]
            told = ask(*rows)
            refused = 0
            for at, call in enumerate(rows):
                if call[0] in (3, 8) and told[at - 1][0] >= 0:
                    self.assertIn(told[at], ([-15], [-22]) if call[0] == 3 else ([-15],))
                    refused += 1
            self.assertGreater(refused, 50)

    def test_d_what_is_refused_changes_nothing(self):
        for calls, expected in LISTS:
            told = list(zip(calls, ask(*calls)))
            good = [(call, answer) for call, answer in told if answer[0] >= 0]
            self.assertLess(len(good), len(told))
            self.assertEqual(ask(*[call for call, answer in good]), [answer for call, answer in good])

    def test_d_all_that_can_be_asked_is_as_before_what_is_refused_or_only_tells(self):
        probes = [state(), free()] + [stay(place) for place in range(4)]
        width = len(probes) + 1
        for calls, expected in LISTS:
            told = ask(*[one for call in calls[:700] for one in [call] + probes])
            for at in range(1, 700):
                call, answer = calls[at], told[at * width]
                if answer[0] < 0 or call[0] in ONLY_TELLING:
                    before = told[(at - 1) * width + 1:at * width]
                    self.assertEqual(told[at * width + 1:(at + 1) * width], before)

    def test_asking_between_changes_no_answer(self):
        for calls, expected in LISTS:
            quiet = [(call, answer) for call, answer in zip(calls, ask(*calls)) if call[0] not in ONLY_TELLING]
            self.assertEqual(ask(*[call for call, answer in quiet]), [answer for call, answer in quiet])


if __name__ == "__main__":
    unittest.main()
