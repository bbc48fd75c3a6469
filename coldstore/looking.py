"""The calls that only look: look."""

from coldstore.refusals import NOT_THERE
from coldstore.rules import free_places, has_chamber


def look(store, c):
    if not has_chamber(store, c):
        return [NOT_THERE]
    chamber = store.chambers[c]
    return [
        chamber.frost,
        chamber.warmth,
        chamber.aim,
        chamber.power,
        chamber.door_open,
        chamber.thaw_hours,
        chamber.places,
        free_places(store, c),
    ]
