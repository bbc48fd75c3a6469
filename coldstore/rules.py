"""What several calls ask of the store alike. Nothing here changes it."""


def is_warmth(number):
    return -500 <= number <= 500


def has_chamber(store, number):
    return 0 <= number < len(store.chambers)


def has_kind(store, number):
    return 0 <= number < len(store.kinds)


def has_lot(store, number):
    return 0 <= number < len(store.lots) and store.lots[number].pallets > 0


def pallets_inside(store, chamber_number):
    return sum([lot.pallets for lot in store.lots if lot.chamber_number == chamber_number])


def free_places(store, chamber_number):
    return store.chambers[chamber_number].places - pallets_inside(store, chamber_number)


def is_spoiled(store, lot):
    kind = store.kinds[lot.kind_number]
    return lot.harm > kind.bears or lot.age > kind.life


def spoiled_lots(store):
    """The numbers of the lots with pallets that are spoiled."""
    return [number for number, lot in enumerate(store.lots) if lot.pallets > 0 and is_spoiled(store, lot)]


def counted(numbers):
    """The answer that tells how many there are, then these."""
    return [len(numbers)] + numbers
