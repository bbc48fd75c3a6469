"""The calls that fill a store: begin, chamber, kind, receive."""

from coldstore.parts import Chamber, Kind, Lot
from coldstore.refusals import NO_ROOM, NOT_THERE, OUT_OF_RANGE
from coldstore.rules import free_places, has_chamber, has_kind, is_warmth

MOST_CHAMBERS = 6
MOST_KINDS = 6
MOST_LOTS = 30


def begin(store, most, outside):
    if not 1 <= most <= MOST_CHAMBERS or not is_warmth(outside):
        return [OUT_OF_RANGE]
    store.lay_out(most, outside)
    store.begun = True
    return [0]


def add_chamber(store, aim, power, places):
    if not is_warmth(aim) or not 1 <= power <= 200 or not 1 <= places <= 100:
        return [OUT_OF_RANGE]
    if len(store.chambers) == MOST_CHAMBERS:
        return [NO_ROOM]
    store.chambers.append(Chamber(aim, power, places))
    return [len(store.chambers) - 1]


def add_kind(store, limit, bears, life):
    if not is_warmth(limit) or not 0 <= bears <= 100000 or not 1 <= life <= 10000:
        return [OUT_OF_RANGE]
    if len(store.kinds) == MOST_KINDS:
        return [NO_ROOM]
    store.kinds.append(Kind(limit, bears, life))
    return [len(store.kinds) - 1]


def receive(store, k, n, core, c):
    if not has_kind(store, k) or not has_chamber(store, c):
        return [NOT_THERE]
    if not 1 <= n <= 100 or not is_warmth(core):
        return [OUT_OF_RANGE]
    if len(store.lots) == MOST_LOTS or free_places(store, c) < n:
        return [NO_ROOM]
    store.lots.append(Lot(k, n, core, c))
    store.came += n
    return [len(store.lots) - 1]
