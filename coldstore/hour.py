"""How an hour goes by: four steps, in their order."""

CLOSED_LEAK = 20
OPEN_LEAK = 220
FULL_FROST = 100
COOLING_FROST = 1
DOOR_FROST = 5
THAWED_FROST = 20
THAW_WARMTH = 5


def drift(store, chamber):
    leak = OPEN_LEAK if chamber.door_open == 1 else CLOSED_LEAK
    return (store.outside - chamber.warmth) * leak // 1000


def cooling_power(chamber):
    return chamber.power * (FULL_FROST - chamber.frost) // 100


def wants_cooling(chamber):
    return chamber.warmth > chamber.aim and chamber.thaw_hours == 0


def cooling_numbers(store):
    """The numbers of the chambers whose turn it is to cool, once all have drifted."""
    if store.mains == 0:
        return []
    # One that frost keeps from cooling at all still takes its turn among these.
    return [number for number, chamber in enumerate(store.chambers) if wants_cooling(chamber)][:store.most]


def add_frost(chamber, more):
    chamber.frost = min(FULL_FROST, chamber.frost + more)


def leak_in(store):
    for chamber in store.chambers:
        chamber.warmth += drift(store, chamber)


def cool_down(store):
    for number in cooling_numbers(store):
        chamber = store.chambers[number]
        colder = min(cooling_power(chamber), chamber.warmth - chamber.aim)
        chamber.warmth -= colder
        store.cooled += colder
        add_frost(chamber, COOLING_FROST)


def thaw_an_hour(chamber):
    chamber.thaw_hours -= 1
    chamber.frost = max(0, chamber.frost - THAWED_FROST)
    chamber.warmth += THAW_WARMTH


def change_frost(store):
    for chamber in store.chambers:
        if chamber.thaw_hours > 0:
            thaw_an_hour(chamber)
        elif chamber.door_open == 1:
            add_frost(chamber, DOOR_FROST)


def age_lot(store, lot):
    lot.core += (store.chambers[lot.chamber_number].warmth - lot.core) // 4
    lot.harm += max(0, lot.core - store.kinds[lot.kind_number].limit)
    lot.age += 1


def age_lots(store):
    for lot in store.lots:
        if lot.pallets > 0:
            age_lot(store, lot)


def pass_hour(store):
    leak_in(store)
    cool_down(store)
    change_frost(store)
    age_lots(store)
    store.hour += 1
