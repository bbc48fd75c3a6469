"""The calls that look at one chamber, lot or kind: look, air, lot, inside, fits."""

from coldstore.hour import cooling_power, drift
from coldstore.refusals import NOT_THERE, OUT_OF_RANGE
from coldstore.rules import counted, free_places, has_chamber, has_kind, is_spoiled, pallets_inside


def look(store, c):
    if not has_chamber(store, c):
        return [NOT_THERE]
    chamber = store.chambers[c]
    return [
        chamber.frost,
        chamber.warmth,
        chamber.aim,
        chamber.power,
        chamber.door_open,
        chamber.thaw_hours,
        chamber.places,
        free_places(store, c),
    ]


def tell_air(store, c):
    if not has_chamber(store, c):
        return [NOT_THERE]
    chamber = store.chambers[c]
    return [cooling_power(chamber), drift(store, chamber)]


def tell_lot(store, l):
    # One without pallets is told of here, too, as it was when its last one went.
    if not 0 <= l < len(store.lots):
        return [NOT_THERE]
    lot = store.lots[l]
    return [
        lot.pallets,
        lot.kind_number,
        lot.chamber_number,
        lot.core,
        lot.harm,
        lot.age,
        1 if is_spoiled(store, lot) else 0,
    ]


def tell_inside(store, c):
    if not has_chamber(store, c):
        return [NOT_THERE]
    answer = [pallets_inside(store, c)]
    for number, lot in enumerate(store.lots):
        if lot.chamber_number == c and lot.pallets > 0:
            answer.extend([number, lot.pallets])
    return answer


def tell_fits(store, k, n):
    if not has_kind(store, k):
        return [NOT_THERE]
    if not 1 <= n <= 100:
        return [OUT_OF_RANGE]
    limit = store.kinds[k].limit
    cold = [c for c, chamber in enumerate(store.chambers) if chamber.warmth <= limit]
    return counted([c for c in cold if free_places(store, c) >= n])
