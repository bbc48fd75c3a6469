"""What several calls ask of the store alike. Nothing here changes it."""


def is_warmth(number):
    return -500 <= number <= 500


def has_chamber(store, number):
    return 0 <= number < len(store.chambers)


def has_kind(store, number):
    return 0 <= number < len(store.kinds)


def has_lot(store, number):
    return 0 <= number < len(store.lots) and store.lots[number].pallets > 0


def free_places(store, chamber_number):
    taken = sum([lot.pallets for lot in store.lots if lot.chamber_number == chamber_number])
    return store.chambers[chamber_number].places - taken


def is_spoiled(store, lot):
    kind = store.kinds[lot.kind_number]
    return lot.harm > kind.bears or lot.age > kind.life


def stands_in_line(store, lot, kind_number):
    return lot.kind_number == kind_number and lot.pallets > 0 and not is_spoiled(store, lot)


def line_of(store, kind_number):
    """The numbers of the lots in the kind's line, the first to go out first."""
    lots = store.lots
    numbers = [number for number, lot in enumerate(lots) if stands_in_line(store, lot, kind_number)]
    return sorted(numbers, key=lambda number: (-lots[number].age, -lots[number].harm, number))


def pallets_in_line(store, kind_number):
    return sum([store.lots[number].pallets for number in line_of(store, kind_number)])


def picked(store, kind_number, wanted):
    """A pair for each lot that is picked from: its number, how many pallets."""
    pairs = []
    missing = wanted
    for number in line_of(store, kind_number):
        if missing == 0:
            break
        taken = min(missing, store.lots[number].pallets)
        pairs.append((number, taken))
        missing -= taken
    return pairs
