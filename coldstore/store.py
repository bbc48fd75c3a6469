"""A list of calls on one new cold store, and what they answer."""

from coldstore.looking import look
from coldstore.moving import move, order, ship, throw
from coldstore.parts import Store
from coldstore.refusals import NOT_BEGUN
from coldstore.running import pass_hours, set_aim, set_door, set_mains, set_outside, start_thaw
from coldstore.setting_up import add_chamber, add_kind, begin, receive

BEGIN = 0
CHAMBER = 1
KIND = 2
RECEIVE = 3
MOVE = 4
SHIP = 5
ORDER = 6
THROW = 7
OPEN = 8
CLOSE = 9
AIM = 10
THAW = 11
MAINS = 12
OUTSIDE = 13
HOURS = 14
LOOK = 15

# How many whole numbers stand behind a call's number, by that number.
ARGUMENT_COUNTS = (
    2, 3, 3, 4,  # begin, chamber, kind, receive
    2, 2, 2, 1,  # move, ship, order, throw
    1, 1, 2, 2, 1, 1, 1,  # open, close, aim, thaw, mains, outside, hours
    1, 1, 1, 0,  # look, air, lot, spoiled
    1, 2, 1, 1, 1,  # line, pick, soon, reach, ahead
    2, 0, 0, 1, 0,  # fits, warm, cool, inside, worst
    0, 0,  # sums, state
)


def answer_goods(store, number, given):
    if number == CHAMBER:
        return add_chamber(store, given[0], given[1], given[2])
    if number == KIND:
        return add_kind(store, given[0], given[1], given[2])
    if number == RECEIVE:
        return receive(store, given[0], given[1], given[2], given[3])
    if number == MOVE:
        return move(store, given[0], given[1])
    if number == SHIP:
        return ship(store, given[0], given[1])
    if number == ORDER:
        return order(store, given[0], given[1])
    return throw(store, given[0])


def answer_running(store, number, given):
    if number == OPEN:
        return set_door(store, given[0], 1)
    if number == CLOSE:
        return set_door(store, given[0], 0)
    if number == AIM:
        return set_aim(store, given[0], given[1])
    if number == THAW:
        return start_thaw(store, given[0], given[1])
    if number == MAINS:
        return set_mains(store, given[0])
    if number == OUTSIDE:
        return set_outside(store, given[0])
    return pass_hours(store, given[0])


def answer_call(store, number, given):
    if number == BEGIN:
        return begin(store, given[0], given[1])
    if not store.begun:
        return [NOT_BEGUN]
    if number <= THROW:
        return answer_goods(store, number, given)
    if number <= HOURS:
        return answer_running(store, number, given)
    if number == LOOK:
        return look(store, given[0])
    raise NotImplementedError(f"call {number} is not built yet")


def answers(calls):
    store = Store()
    told = []
    place = 0
    while place < len(calls):
        number = calls[place]
        behind = place + 1 + ARGUMENT_COUNTS[number]
        answer = answer_call(store, number, calls[place + 1:behind])
        told.append(len(answer))
        told.extend(answer)
        place = behind
    return told
