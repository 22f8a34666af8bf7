"""A card's sixteen bytes, and the tag (SipHash-2-4) that shows they were made by the house's key."""

GUEST_CARD = 1
STAFF_CARD = 2
SHUTTING_CARD = 3
EMERGENCY_CARD = 4

CARD_LENGTH = 16
HEAD_LENGTH = 8
MOST_ROOMS = 64
EMERGENCY_PLACE = 255

ALL_BITS = 18446744073709551615
START_A = 8317987319222330741
START_B = 7237128888997146477
START_C = 7816392313619706465
START_D = 8387220255154660723


def card_of(key, kind, place, number, last, serial):
    head = [kind, place] + bytes_of(number, 2) + bytes_of(last, 2) + bytes_of(serial, 2)
    return head + tag_of(key, head)


def is_card(key, row):
    if len(row) != CARD_LENGTH:
        return False
    # A right tag alone is not enough: no card has another kind, or another place for its kind.
    if not is_place(row[0], row[1]):
        return False
    return row[HEAD_LENGTH:] == tag_of(key, row[:HEAD_LENGTH])


def is_place(kind, place):
    if kind == GUEST_CARD or kind == SHUTTING_CARD:
        return place < MOST_ROOMS
    if kind == STAFF_CARD:
        return place > 0
    return kind == EMERGENCY_CARD and place == EMERGENCY_PLACE


def parts_of(card):
    return [card[0], card[1], number_of(card[2:4]), number_of(card[4:6]), number_of(card[6:8])]


def tag_of(key, message):
    four = start_of(key)
    for word in words_of(message):
        four = take_in(four, word)
    four = [four[0], four[1], four[2] ^ 255, four[3]]
    four = rounds_of(four, 4)
    return bytes_of(four[0] ^ four[1] ^ four[2] ^ four[3], 8)


def start_of(key):
    k = number_of(key[:8])
    l = number_of(key[8:])
    return [START_A ^ k, START_B ^ l, START_C ^ k, START_D ^ l]


def words_of(message):
    words = []
    at = 0
    while at + 8 <= len(message):
        words.append(number_of(message[at:at + 8]))
        at = at + 8
    # The last word tells the length too, so that it is there even where no bytes are left.
    words.append(number_of(message[at:]) | ((len(message) % 256) << 56))
    return words


def take_in(four, word):
    mixed = rounds_of([four[0], four[1], four[2], four[3] ^ word], 2)
    return [mixed[0] ^ word, mixed[1], mixed[2], mixed[3]]


def rounds_of(four, times):
    for turn in range(times):
        four = round_of(four)
    return four


def round_of(four):
    a = four[0]
    b = four[1]
    c = four[2]
    d = four[3]
    a = (a + b) & ALL_BITS
    b = turned(b, 13) ^ a
    a = turned(a, 32)
    c = (c + d) & ALL_BITS
    d = turned(d, 16) ^ c
    a = (a + d) & ALL_BITS
    d = turned(d, 21) ^ a
    c = (c + b) & ALL_BITS
    b = turned(b, 17) ^ c
    c = turned(c, 32)
    return [a, b, c, d]


def turned(x, places):
    return ((x << places) & ALL_BITS) | (x >> (64 - places))


def number_of(row):
    number = 0
    for byte in reversed(row):
        number = number * 256 + byte
    return number


def bytes_of(number, length):
    row = []
    for place in range(length):
        row.append(number % 256)
        number = number // 256
    return row
