"""The calls that tell what comes if nothing's done: soon, reach, ahead, cool."""

from coldstore.hour import cooling_numbers, leak_in, pass_hour
from coldstore.parts import Chamber, Lot, Store
from coldstore.refusals import CANNOT_BE, NOT_THERE, OUT_OF_RANGE
from coldstore.rules import counted, has_chamber, has_lot, is_spoiled, spoiled_lots

FORESEEN_HOURS = 400


def copied_chamber(chamber):
    twin = Chamber(chamber.aim, chamber.power, chamber.places)
    twin.warmth = chamber.warmth
    twin.frost = chamber.frost
    twin.door_open = chamber.door_open
    twin.thaw_hours = chamber.thaw_hours
    return twin


def copied_lot(lot):
    twin = Lot(lot.kind_number, lot.pallets, lot.core, lot.chamber_number)
    twin.harm = lot.harm
    twin.age = lot.age
    return twin


def copied_store(store, lots):
    """A store of its own for the hours to come, with these of the lots; it counts anew what is cooled."""
    twin = Store()
    twin.lay_out(store.most, store.outside)
    twin.mains = store.mains
    twin.chambers = [copied_chamber(chamber) for chamber in store.chambers]
    twin.kinds = list(store.kinds)
    twin.lots = [copied_lot(lot) for lot in lots]
    return twin


def hours_until(later, holds):
    """In how many hours it holds of this store, the hours of which go by for that."""
    for passed in range(FORESEEN_HOURS + 1):
        if holds(later):
            return [passed]
        pass_hour(later)
    return [CANNOT_BE]


def foresee_spoiling(store, l):
    if not has_lot(store, l):
        return [NOT_THERE]
    # No lot changes the air, so the others needn't come along.
    later = copied_store(store, [store.lots[l]])
    return hours_until(later, lambda there: is_spoiled(there, there.lots[0]))


def foresee_reaching(store, c):
    if not has_chamber(store, c):
        return [NOT_THERE]
    later = copied_store(store, [])
    return hours_until(later, lambda there: there.chambers[c].warmth <= there.chambers[c].aim)


def foresee_hours(store, n):
    if not 1 <= n <= 200:
        return [OUT_OF_RANGE]
    later = copied_store(store, store.lots)
    for passed in range(n):
        pass_hour(later)
    return [len(spoiled_lots(later)), later.cooled] + [chamber.warmth for chamber in later.chambers]


def foresee_cooling(store):
    later = copied_store(store, [])
    # Whose turn it is shows only once the hour's drift has come in.
    leak_in(later)
    return counted(cooling_numbers(later))
