"""The calls that move pallets about and out: move, ship, order, throw."""

from coldstore.lines import pick
from coldstore.refusals import ALREADY, NO_ROOM, NOT_THERE, OUT_OF_RANGE, SPOILED
from coldstore.rules import free_places, has_chamber, has_lot, is_spoiled


def move(store, l, c):
    if not has_lot(store, l) or not has_chamber(store, c):
        return [NOT_THERE]
    lot = store.lots[l]
    before = lot.chamber_number
    if before == c:
        return [ALREADY]
    if free_places(store, c) < lot.pallets:
        return [NO_ROOM]
    lot.chamber_number = c
    return [before]


def send_out(store, lot, pallets):
    lot.pallets -= pallets
    store.went_out += pallets


def ship(store, l, n):
    if not has_lot(store, l):
        return [NOT_THERE]
    lot = store.lots[l]
    if not 1 <= n <= lot.pallets:
        return [OUT_OF_RANGE]
    if is_spoiled(store, lot):
        return [SPOILED]
    send_out(store, lot, n)
    return [lot.pallets]


def order(store, k, n):
    answer = pick(store, k, n)
    if answer[0] < 0:
        return answer
    for place in range(1, len(answer), 2):
        send_out(store, store.lots[answer[place]], answer[place + 1])
    return answer


def throw(store, l):
    if not has_lot(store, l):
        return [NOT_THERE]
    lot = store.lots[l]
    pallets = lot.pallets
    lot.pallets = 0
    store.thrown += pallets
    return [pallets]
