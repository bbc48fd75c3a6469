"""The calls that look at the whole store: spoiled, warm, worst, sums, state."""

from coldstore.refusals import NO_LOT
from coldstore.rules import counted, spoiled_lots

TOO_WARM = 20


def tell_spoiled(store):
    return counted(spoiled_lots(store))


def tell_warm(store):
    return counted([c for c, chamber in enumerate(store.chambers) if chamber.warmth - chamber.aim > TOO_WARM])


def is_worse(store, lot, other):
    """Whether its harm is the greater part of one more than it bears, without dividing."""
    bears = store.kinds[lot.kind_number].bears
    other_bears = store.kinds[other.kind_number].bears
    return lot.harm * (other_bears + 1) > other.harm * (bears + 1)


def tell_worst(store):
    numbers = [number for number, lot in enumerate(store.lots) if lot.pallets > 0]
    if len(numbers) == 0:
        return [NO_LOT]
    worst = numbers[0]
    for number in numbers:
        if is_worse(store, store.lots[number], store.lots[worst]):
            worst = number
    lot = store.lots[worst]
    return [worst, lot.harm, store.kinds[lot.kind_number].bears]


def tell_sums(store):
    inside = sum([lot.pallets for lot in store.lots])
    return [0, store.came, inside, store.went_out, store.thrown, store.cooled]


def tell_state(store):
    return [0, store.hour, store.mains, len(store.chambers), len(store.kinds), len(store.lots), store.outside]
