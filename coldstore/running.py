"""The calls that run a store: open, close, aim, thaw, mains, outside, hours."""

from coldstore.hour import pass_hour
from coldstore.refusals import ALREADY, NOT_THERE, OUT_OF_RANGE
from coldstore.rules import has_chamber, is_warmth


def set_door(store, c, door_open):
    if not has_chamber(store, c):
        return [NOT_THERE]
    chamber = store.chambers[c]
    if chamber.door_open == door_open:
        return [ALREADY]
    chamber.door_open = door_open
    return [0]


def set_aim(store, c, t):
    if not has_chamber(store, c):
        return [NOT_THERE]
    if not is_warmth(t):
        return [OUT_OF_RANGE]
    chamber = store.chambers[c]
    before = chamber.aim
    chamber.aim = t
    return [0, before]


def start_thaw(store, c, n):
    if not has_chamber(store, c):
        return [NOT_THERE]
    if not 1 <= n <= 10:
        return [OUT_OF_RANGE]
    chamber = store.chambers[c]
    if chamber.thaw_hours > 0:
        return [ALREADY]
    chamber.thaw_hours = n
    return [chamber.frost]


def set_mains(store, b):
    if not 0 <= b <= 1:
        return [OUT_OF_RANGE]
    if store.mains == b:
        return [ALREADY]
    store.mains = b
    return [0]


def set_outside(store, t):
    if not is_warmth(t):
        return [OUT_OF_RANGE]
    before = store.outside
    store.outside = t
    return [0, before]


def pass_hours(store, n):
    if not 1 <= n <= 200:
        return [OUT_OF_RANGE]
    for passed in range(n):
        pass_hour(store)
    return [store.hour]
