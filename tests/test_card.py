"""The head of the document: the tag of a message by a key, a card's bytes, serial numbers."""

import unittest

from doorcards.card import card_of, tag_of
from tests.helper import KEY, OTHER_KEY, ask, begin, come, copy, guest, last_answer, leave, longer, lost, reckoned_tag
from tests.helper import room

# By key and message: reckoned with OpenSSL's SipHash-2-4 (eight bytes of tag), not with this program.
TAGS = [
    ("000102030405060708090a0b0c0d0e0f", "0001020304050607", "6224939a79f5f593"),
    ("000102030405060708090a0b0c0d0e0f", "0100010000000000", "9478386c2cbe8d30"),
    ("000102030405060708090a0b0c0d0e0f", "013fffffffffffff", "e3603e3c3579d5f9"),
    ("00000000000000000000000000000000", "0001020304050607", "38792ffc241c2bc7"),
    ("00000000000000000000000000000000", "0100010000000000", "51825285fdf1149b"),
    ("00000000000000000000000000000000", "013fffffffffffff", "21e3203d061598c9"),
    ("ffffffffffffffffffffffffffffffff", "0001020304050607", "e76a4d8dcb2f1060"),
    ("ffffffffffffffffffffffffffffffff", "0100010000000000", "61d1a5f7039cc6c5"),
    ("ffffffffffffffffffffffffffffffff", "013fffffffffffff", "d472b28238be376b"),
    ("80017ffe00ff10203040506070809fa0", "0001020304050607", "f65f80efc9c706f5"),
    ("80017ffe00ff10203040506070809fa0", "0100010000000000", "58567065649ff62e"),
    ("80017ffe00ff10203040506070809fa0", "013fffffffffffff", "ef44490467b9db92"),
]


def row(hexadecimal):
    return list(bytes.fromhex(hexadecimal))


class TagTest(unittest.TestCase):
    def test_known_tags(self):
        for key, message, tag in TAGS:
            with self.subTest(key=key, message=message):
                self.assertEqual(tag_of(row(key), row(message)), row(tag))

    def test_the_tests_own_reckoning(self):
        for key, message, tag in TAGS:
            self.assertEqual(reckoned_tag(row(key), row(message)), row(tag))

    def test_every_length_of_message(self):
        # Lengths round whole words, and 256, where the length's byte begins anew.
        for length in list(range(26)) + [255, 256, 257]:
            message = [(7 * place + 3) % 256 for place in range(length)]
            with self.subTest(length=length):
                self.assertEqual(tag_of(OTHER_KEY, message), reckoned_tag(OTHER_KEY, message))

    def test_each_byte_of_the_key_counts(self):
        tags = [tuple(tag_of(KEY, [1] * 8))]
        for place in range(16):
            key = list(KEY)
            key[place] ^= 128
            tags.append(tuple(tag_of(key, [1] * 8)))
            self.assertEqual(list(tags[-1]), reckoned_tag(key, [1] * 8))
        self.assertEqual(len(set(tags)), 17)

    def test_nothing_handed_in_is_changed(self):
        key = list(KEY)
        message = [5] * 11
        tag_of(key, message)
        self.assertEqual((key, message), (KEY, [5] * 11))


class CardTest(unittest.TestCase):
    def test_bytes_in_their_order(self):
        card = card_of(KEY, 1, 63, 0x0102, 0x0304, 0x0506)
        self.assertEqual(card[:8], [1, 63, 2, 1, 4, 3, 6, 5])
        self.assertEqual(card[8:], reckoned_tag(KEY, [1, 63, 2, 1, 4, 3, 6, 5]))

    def test_greatest_values(self):
        card = card_of(KEY, 1, 63, 65535, 65535, 65535)
        self.assertEqual(card, row("013fffffffffffff" + "e3603e3c3579d5f9"))

    def test_a_card_of_a_call(self):
        # Number 1, last day 258: as bytes 1 0 and 2 1.
        answer = last_answer(begin(), room(), room(), come(1, 258))
        self.assertEqual(answer[:9], [0, 1, 1, 1, 0, 2, 1, 0, 0])
        self.assertEqual(answer[9:], reckoned_tag(KEY, [1, 1, 1, 0, 2, 1, 0, 0]))

    def test_the_tag_is_by_the_key_begun_with(self):
        for key in (KEY, OTHER_KEY, [0] * 16, [255] * 16):
            self.assertEqual(last_answer(begin(key), room(), come(0, 7)), guest(0, 1, 7, 0, key))

    def test_serial_numbers_count_all_cards_made(self):
        told = ask(begin(), room(), room(), come(0, 5), come(1, 5), copy(0), lost(1), longer(0, 6), leave(0),
                   come(0, 5))
        serials = [answer[0] for answer in told if len(answer) == 17]
        self.assertEqual(serials, [0, 1, 2, 3, 4, 5])
        for answer in told:
            if len(answer) == 17:
                self.assertEqual(answer[7:9], [answer[0] % 256, answer[0] // 256])

    def test_serial_numbers_above_a_byte(self):
        told = ask(begin(), room(), come(0, 5), *[copy(0)] * 300)
        self.assertEqual(told[2:], [guest(0, 1, 5, serial) for serial in range(301)])


if __name__ == "__main__":
    unittest.main()
