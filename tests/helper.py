"""What the tests share: calls as lists of numbers, answers split call by call, cards reckoned anew.

The tag is reckoned here from the document's words, with nothing of the program's own code.
"""

from doorcards.desk import Desk, Line, answer_call, answers

KEY = list(range(16))
OTHER_KEY = [128, 1, 127, 254, 0, 255, 16, 32, 48, 64, 80, 96, 112, 128, 159, 160]
GREATEST = 4294967295

# One call of each kind, in good form, by its number.
ONE_OF_EACH = {
    0: [0, 16] + KEY, 1: [1, 0], 2: [2, 0], 3: [3, 0, 5], 4: [4, 0], 5: [5, 0], 6: [6, 0, 9], 7: [7, 0],
    8: [8, 0], 9: [9, 1, 5], 10: [10], 11: [11, 5], 12: [12, 16] + KEY, 13: [13, 0], 14: [14], 15: [15],
}


def begin(key=None):
    key = KEY if key is None else key
    return [0, len(key)] + list(key)


def room(zone=0):
    return [1, zone]


def day(d):
    return [2, d]


def come(place, last):
    return [3, place, last]


def copy(place):
    return [4, place]


def lost(place):
    return [5, place]


def longer(place, last):
    return [6, place, last]


def leave(place):
    return [7, place]


def shut(place):
    return [8, place]


def staff(zones, last):
    return [9, zones, last]


def recall():
    return [10]


def need(last):
    return [11, last]


def whose(card):
    return [12, len(card)] + list(card)


def stay(place):
    return [13, place]


def free():
    return [14]


def state():
    return [15]


def ask(*calls):
    """The answer of each call, as a list a call, without the count ahead of it."""
    told = answers([number for call in calls for number in call])
    split = []
    at = 0
    while at < len(told):
        split.append(told[at + 1:at + 1 + told[at]])
        assert len(split[-1]) == told[at], "the last count tells more than is there"
        at += 1 + told[at]
    assert len(split) == len(calls), "one answer a call"
    return split


def last_answer(*calls):
    return ask(*calls)[-1]


class Reckoner:
    """The four numbers a, b, c, d of the document, and what is done with them."""

    def __init__(self, key):
        k = int.from_bytes(bytes(key[:8]), "little")
        l = int.from_bytes(bytes(key[8:]), "little")
        self.n = {
            "a": 8317987319222330741 ^ k, "b": 7237128888997146477 ^ l,
            "c": 7816392313619706465 ^ k, "d": 8387220255154660723 ^ l,
        }

    def plus(self, x, y):
        self.n[x] = (self.n[x] + self.n[y]) % 2 ** 64

    def turn(self, x, places):
        bits = format(self.n[x], "064b")
        self.n[x] = int(bits[places:] + bits[:places], 2)

    def turn_and_xor(self, x, places, y):
        self.turn(x, places)
        self.n[x] ^= self.n[y]

    def round(self):
        self.plus("a", "b")
        self.turn_and_xor("b", 13, "a")
        self.turn("a", 32)
        self.plus("c", "d")
        self.turn_and_xor("d", 16, "c")
        self.plus("a", "d")
        self.turn_and_xor("d", 21, "a")
        self.plus("c", "b")
        self.turn_and_xor("b", 17, "c")
        self.turn("c", 32)

    def word(self, m):
        self.n["d"] ^= m
        self.round()
        self.round()
        self.n["a"] ^= m


def reckoned_tag(key, message):
    reckoner = Reckoner(key)
    whole = len(message) // 8 * 8
    left = bytes(message[whole:]).ljust(7, b"\0") + bytes([len(message) % 256])
    padded = bytes(message[:whole]) + left
    for at in range(0, len(padded), 8):
        reckoner.word(int.from_bytes(padded[at:at + 8], "little"))
    reckoner.n["c"] ^= 255
    for _ in range(4):
        reckoner.round()
    n = reckoner.n
    return list((n["a"] ^ n["b"] ^ n["c"] ^ n["d"]).to_bytes(8, "little"))


def forged(kind, place, number, last, serial, key=None):
    """Sixteen bytes with the right tag by the key, whether a card may have such parts or not."""
    head = [kind, place, number % 256, number // 256, last % 256, last // 256, serial % 256, serial // 256]
    return head + reckoned_tag(KEY if key is None else key, head)


def guest(place, number, last, serial, key=None):
    """What a call answers that makes this guest's card: its serial number, then the card."""
    return [serial] + forged(1, place, number, last, serial, key)


def of_staff(zones, number, last, serial, key=None):
    return [serial] + forged(2, zones, number, last, serial, key)


def shutting(place, number, last, serial, key=None):
    return [serial] + forged(3, place, number, last, serial, key)


def emergency(number, last, serial, key=None):
    return [serial] + forged(4, 255, number, last, serial, key)


def desk_with(serial, number, stay_last, staff_round=0):
    """A line whose desk, with one room, made many cards already: more than the calls of one list can make."""
    line = Line()
    line.desk = Desk(list(KEY))
    ask_one(line, room())
    line.desk.serial = serial
    line.desk.staff_round = staff_round
    line.desk.rooms[0].number = number
    line.desk.rooms[0].stay_last = stay_last
    return line


def ask_one(line, call):
    return answer_call(line, call[0], call[1:])


def kept_by(line):
    """All that the line's desk keeps, as values that later calls don't change."""
    desk = line.desk
    rooms = [(one.zone, one.number, one.stay_last) for one in desk.rooms]
    return (list(desk.key), desk.day, desk.staff_round, desk.serial, rooms)
