"""The line of a kind, and what is picked from it: the calls line and pick."""

from coldstore.refusals import CANNOT_BE, NOT_THERE, OUT_OF_RANGE
from coldstore.rules import counted, has_kind, is_spoiled


def stands_in_line(store, lot, kind_number):
    return lot.kind_number == kind_number and lot.pallets > 0 and not is_spoiled(store, lot)


def line_of(store, kind_number):
    """The numbers of the lots in the kind's line, the first to go out first."""
    lots = store.lots
    numbers = [number for number, lot in enumerate(lots) if stands_in_line(store, lot, kind_number)]
    return sorted(numbers, key=lambda number: (-lots[number].age, -lots[number].harm, number))


def pallets_in_line(store, kind_number):
    return sum([store.lots[number].pallets for number in line_of(store, kind_number)])


def picked(store, kind_number, wanted):
    """A pair for each lot that is picked from: its number, how many pallets."""
    pairs = []
    missing = wanted
    for number in line_of(store, kind_number):
        if missing == 0:
            break
        taken = min(missing, store.lots[number].pallets)
        pairs.append((number, taken))
        missing -= taken
    return pairs


def tell_line(store, k):
    if not has_kind(store, k):
        return [NOT_THERE]
    return counted(line_of(store, k))


def pick(store, k, n):
    if not has_kind(store, k):
        return [NOT_THERE]
    if not 1 <= n <= 600:
        return [OUT_OF_RANGE]
    if pallets_in_line(store, k) < n:
        return [CANNOT_BE]
    pairs = picked(store, k, n)
    answer = [len(pairs)]
    for number, taken in pairs:
        answer.extend([number, taken])
    return answer
