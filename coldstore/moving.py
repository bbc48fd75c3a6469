"""The calls that move pallets about and out: move, ship, order, throw."""

from coldstore.refusals import ALREADY, CANNOT_BE, NO_ROOM, NOT_THERE, OUT_OF_RANGE, SPOILED
from coldstore.rules import free_places, has_chamber, has_kind, has_lot, is_spoiled, pallets_in_line, picked


def move(store, l, c):
    if not has_lot(store, l) or not has_chamber(store, c):
        return [NOT_THERE]
    lot = store.lots[l]
    before = lot.chamber_number
    if before == c:
        return [ALREADY]
    if free_places(store, c) < lot.pallets:
        return [NO_ROOM]
    lot.chamber_number = c
    return [before]


def ship(store, l, n):
    if not has_lot(store, l):
        return [NOT_THERE]
    lot = store.lots[l]
    if not 1 <= n <= lot.pallets:
        return [OUT_OF_RANGE]
    if is_spoiled(store, lot):
        return [SPOILED]
    lot.pallets -= n
    return [lot.pallets]


def order(store, k, n):
    if not has_kind(store, k):
        return [NOT_THERE]
    if not 1 <= n <= 600:
        return [OUT_OF_RANGE]
    if pallets_in_line(store, k) < n:
        return [CANNOT_BE]
    pairs = picked(store, k, n)
    answer = [len(pairs)]
    for number, taken in pairs:
        lot = store.lots[number]
        lot.pallets -= taken
        answer.extend([number, taken])
    return answer


def throw(store, l):
    if not has_lot(store, l):
        return [NOT_THERE]
    lot = store.lots[l]
    thrown = lot.pallets
    lot.pallets = 0
    return [thrown]
