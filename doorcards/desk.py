"""The desk: its day, its rooms and their stays, and the calls that are made on it."""

from doorcards.card import EMERGENCY_CARD, EMERGENCY_PLACE, GUEST_CARD, MOST_ROOMS, SHUTTING_CARD, STAFF_CARD
from doorcards.card import card_of, is_card, parts_of

BEGIN = 0
ROOM = 1
DAY = 2
COME = 3
COPY = 4
LOST = 5
LONGER = 6
LEAVE = 7
SHUT = 8
STAFF = 9
RECALL = 10
NEED = 11
WHOSE = 12
STAY = 13
FREE = 14

# How many whole numbers stand behind each call's own; begin's and whose's is how long their row is.
NUMBERS_BEHIND = (1, 1, 1, 2, 1, 1, 2, 1, 1, 2, 0, 1, 1, 1, 0, 0)

NO_ROOM = -2
NO_STAY = -6
HAS_STAY = -15
WRONG_VALUE = -22
NO_MORE = -28
NO_DESK = -61
NO_CARD = -71

KEY_LENGTH = 16
LAST_ZONE = 7
ALL_ZONES = 255
LAST_DAY = 65535
LAST_NUMBER = 65535
LAST_ROUND = 65535
MOST_CARDS = 65535


class Room:
    def __init__(self, zone):
        self.zone = zone
        self.number = 0
        # The stay's last day; None while there is no stay.
        self.stay_last = None


class Desk:
    def __init__(self, key):
        self.key = key
        self.day = 0
        self.staff_round = 0
        self.serial = 0
        self.rooms = []


class Line:
    def __init__(self):
        # None until the first begin that is not refused.
        self.desk = None


def answers(calls):
    line = Line()
    told = []
    at = 0
    while at < len(calls):
        end = end_of_call(calls, at)
        answer = answer_call(line, calls[at], calls[at + 1:end])
        told.append(len(answer))
        told.extend(answer)
        at = end
    return told


def end_of_call(calls, at):
    call = calls[at]
    end = at + 1 + NUMBERS_BEHIND[call]
    if call == BEGIN or call == WHOSE:
        end = end + calls[at + 1]
    return end


def answer_call(line, call, given):
    if call == BEGIN:
        return begin(line, given[1:])
    if line.desk is None:
        return [NO_DESK]
    if is_at_room(call):
        return answer_at_room(line.desk, call, given)
    return answer_at_desk(line.desk, call, given)


def is_at_room(call):
    return call in (COME, COPY, LOST, LONGER, LEAVE, SHUT, STAY)


def answer_at_desk(desk, call, given):
    if call == ROOM:
        return add_room(desk, given[0])
    if call == DAY:
        return set_day(desk, given[0])
    if call == STAFF:
        return staff_card(desk, given[0], given[1])
    if call == RECALL:
        return recall(desk)
    if call == NEED:
        return emergency_card(desk, given[0])
    if call == WHOSE:
        return whose(desk, given[1:])
    if call == FREE:
        return free_rooms(desk)
    return state(desk)


def answer_at_room(desk, call, given):
    place = given[0]
    if place >= len(desk.rooms):
        return [NO_ROOM]
    if call == COME:
        return come(desk, place, given[1])
    if call == SHUT:
        return shut(desk, place)
    # All others are about a stay, and refuse a room without one ahead of all else.
    if desk.rooms[place].stay_last is None:
        return [NO_STAY]
    if call == COPY:
        return copy_card(desk, place)
    if call == LOST:
        return lose_card(desk, place)
    if call == LONGER:
        return stay_longer(desk, place, given[1])
    if call == LEAVE:
        return leave(desk, place)
    return tell_stay(desk, place)


def begin(line, key):
    if len(key) != KEY_LENGTH:
        return [WRONG_VALUE]
    line.desk = Desk(key)
    return [0]


def add_room(desk, zone):
    if zone > LAST_ZONE:
        return [WRONG_VALUE]
    if len(desk.rooms) >= MOST_ROOMS:
        return [NO_MORE]
    desk.rooms.append(Room(zone))
    return [len(desk.rooms) - 1]


def set_day(desk, day):
    if day < desk.day or day > LAST_DAY:
        return [WRONG_VALUE]
    desk.day = day
    over = 0
    for room in desk.rooms:
        if is_over(room, day):
            room.stay_last = None
            over = over + 1
    return [over]


def is_over(room, day):
    return room.stay_last is not None and room.stay_last < day


def come(desk, place, last):
    room = desk.rooms[place]
    if is_wrong_last(desk, last):
        return [WRONG_VALUE]
    if room.stay_last is not None:
        return [HAS_STAY]
    if no_more_cards(desk) or no_more_numbers(room):
        return [NO_MORE]
    room.stay_last = last
    room.number = room.number + 1
    return guest_card(desk, place)


def copy_card(desk, place):
    if no_more_cards(desk):
        return [NO_MORE]
    return guest_card(desk, place)


def lose_card(desk, place):
    room = desk.rooms[place]
    if no_more_cards(desk) or no_more_numbers(room):
        return [NO_MORE]
    room.number = room.number + 1
    return guest_card(desk, place)


def stay_longer(desk, place, last):
    room = desk.rooms[place]
    if last < room.stay_last or last > LAST_DAY:
        return [WRONG_VALUE]
    if no_more_cards(desk):
        return [NO_MORE]
    room.stay_last = last
    return guest_card(desk, place)


def leave(desk, place):
    room = desk.rooms[place]
    room.stay_last = None
    return [0]


def shut(desk, place):
    room = desk.rooms[place]
    if room.stay_last is not None:
        return [HAS_STAY]
    if no_more_cards(desk) or no_more_numbers(room):
        return [NO_MORE]
    room.number = room.number + 1
    return make_card(desk, SHUTTING_CARD, place, room.number, desk.day)


def staff_card(desk, zones, last):
    if zones < 1 or zones > ALL_ZONES or is_wrong_last(desk, last):
        return [WRONG_VALUE]
    if no_more_cards(desk):
        return [NO_MORE]
    return make_card(desk, STAFF_CARD, zones, desk.staff_round, last)


def recall(desk):
    if desk.staff_round >= LAST_ROUND:
        return [NO_MORE]
    desk.staff_round = desk.staff_round + 1
    return [desk.staff_round]


def emergency_card(desk, last):
    if is_wrong_last(desk, last):
        return [WRONG_VALUE]
    if no_more_cards(desk):
        return [NO_MORE]
    return make_card(desk, EMERGENCY_CARD, EMERGENCY_PLACE, desk.staff_round, last)


def whose(desk, row):
    if not is_card(desk.key, row):
        return [NO_CARD]
    parts = parts_of(row)
    good = is_good(desk, parts[0], parts[1], parts[2], parts[3])
    return [1 if good else 0] + parts


def is_good(desk, kind, place, number, last):
    if last < desk.day:
        return False
    if kind == STAFF_CARD or kind == EMERGENCY_CARD:
        return number == desk.staff_round
    # A card can tell of a room that this desk never had: one made ahead of a new begin with the same key.
    if place >= len(desk.rooms):
        return False
    room = desk.rooms[place]
    if kind == GUEST_CARD and room.stay_last is None:
        return False
    return number == room.number


def tell_stay(desk, place):
    room = desk.rooms[place]
    return [room.stay_last, room.number, room.zone]


def free_rooms(desk):
    places = [place for place, room in enumerate(desk.rooms) if room.stay_last is None]
    return [len(places)] + places


def state(desk):
    stays = [room for room in desk.rooms if room.stay_last is not None]
    return [len(desk.rooms), len(stays), desk.day, desk.staff_round, desk.serial]


def is_wrong_last(desk, last):
    return last < desk.day or last > LAST_DAY


def no_more_cards(desk):
    return desk.serial >= MOST_CARDS


def no_more_numbers(room):
    return room.number >= LAST_NUMBER


def guest_card(desk, place):
    room = desk.rooms[place]
    return make_card(desk, GUEST_CARD, place, room.number, room.stay_last)


def make_card(desk, kind, place, number, last):
    serial = desk.serial
    desk.serial = serial + 1
    return [serial] + card_of(desk.key, kind, place, number, last, serial)
