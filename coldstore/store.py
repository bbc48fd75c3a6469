"""A list of calls on one new cold store, and what they answer."""

from coldstore.foreseeing import foresee_cooling, foresee_hours, foresee_reaching, foresee_spoiling
from coldstore.lines import pick, tell_line
from coldstore.looking import look, tell_air, tell_fits, tell_inside, tell_lot
from coldstore.moving import move, order, ship, throw
from coldstore.parts import Store
from coldstore.refusals import NOT_BEGUN
from coldstore.running import pass_hours, set_aim, set_door, set_mains, set_outside, start_thaw
from coldstore.setting_up import add_chamber, add_kind, begin, receive
from coldstore.surveying import tell_spoiled, tell_state, tell_sums, tell_warm, tell_worst

BEGIN = 0
CHAMBER = 1
KIND = 2
RECEIVE = 3
MOVE = 4
SHIP = 5
ORDER = 6
THROW = 7
OPEN = 8
CLOSE = 9
AIM = 10
THAW = 11
MAINS = 12
OUTSIDE = 13
HOURS = 14
LOOK = 15
AIR = 16
LOT = 17
SPOILED_LOTS = 18
LINE = 19
PICK = 20
SOON = 21
REACH = 22
AHEAD = 23
FITS = 24
WARM = 25
COOL = 26
INSIDE = 27
WORST = 28
SUMS = 29

# How many whole numbers stand behind a call's number, by that number.
ARGUMENT_COUNTS = (
    2, 3, 3, 4,  # begin, chamber, kind, receive
    2, 2, 2, 1,  # move, ship, order, throw
    1, 1, 2, 2, 1, 1, 1,  # open, close, aim, thaw, mains, outside, hours
    1, 1, 1, 0,  # look, air, lot, spoiled
    1, 2, 1, 1, 1,  # line, pick, soon, reach, ahead
    2, 0, 0, 1, 0,  # fits, warm, cool, inside, worst
    0, 0,  # sums, state
)


def answer_goods(store, number, given):
    if number == CHAMBER:
        return add_chamber(store, given[0], given[1], given[2])
    if number == KIND:
        return add_kind(store, given[0], given[1], given[2])
    if number == RECEIVE:
        return receive(store, given[0], given[1], given[2], given[3])
    if number == MOVE:
        return move(store, given[0], given[1])
    if number == SHIP:
        return ship(store, given[0], given[1])
    if number == ORDER:
        return order(store, given[0], given[1])
    return throw(store, given[0])


def answer_running(store, number, given):
    if number == OPEN:
        return set_door(store, given[0], 1)
    if number == CLOSE:
        return set_door(store, given[0], 0)
    if number == AIM:
        return set_aim(store, given[0], given[1])
    if number == THAW:
        return start_thaw(store, given[0], given[1])
    if number == MAINS:
        return set_mains(store, given[0])
    if number == OUTSIDE:
        return set_outside(store, given[0])
    return pass_hours(store, given[0])


def answer_looking(store, number, given):
    if number == LOOK:
        return look(store, given[0])
    if number == AIR:
        return tell_air(store, given[0])
    if number == LOT:
        return tell_lot(store, given[0])
    if number == SPOILED_LOTS:
        return tell_spoiled(store)
    if number == LINE:
        return tell_line(store, given[0])
    return pick(store, given[0], given[1])


def answer_planning(store, number, given):
    if number == SOON:
        return foresee_spoiling(store, given[0])
    if number == REACH:
        return foresee_reaching(store, given[0])
    if number == AHEAD:
        return foresee_hours(store, given[0])
    if number == FITS:
        return tell_fits(store, given[0], given[1])
    if number == WARM:
        return tell_warm(store)
    return foresee_cooling(store)


def answer_sums(store, number, given):
    if number == INSIDE:
        return tell_inside(store, given[0])
    if number == WORST:
        return tell_worst(store)
    if number == SUMS:
        return tell_sums(store)
    return tell_state(store)


def answer_call(store, number, given):
    if number == BEGIN:
        return begin(store, given[0], given[1])
    if not store.begun:
        return [NOT_BEGUN]
    if number <= THROW:
        return answer_goods(store, number, given)
    if number <= HOURS:
        return answer_running(store, number, given)
    if number <= PICK:
        return answer_looking(store, number, given)
    if number <= COOL:
        return answer_planning(store, number, given)
    return answer_sums(store, number, given)


def answers(calls):
    store = Store()
    told = []
    place = 0
    while place < len(calls):
        number = calls[place]
        behind = place + 1 + ARGUMENT_COUNTS[number]
        answer = answer_call(store, number, calls[place + 1:behind])
        told.append(len(answer))
        told.extend(answer)
        place = behind
    return told
