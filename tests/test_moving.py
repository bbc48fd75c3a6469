import unittest

from tests.helper import UNSIGNED_MOST, last, run

# Nothing leaks here: outside is as warm as the chambers are.
COLD = (("begin", 6, -200), ("chamber", -200, 50, 100), ("chamber", -200, 50, 10))
LASTING = ("kind", 0, 0, 10000)
READY = COLD + (LASTING,)


def free(*calls):
    """How many places are free in the first two chambers behind these calls."""
    told = run(list(calls) + [("look", 0), ("look", 1)])
    return told[-2][-1], told[-1][-1]


class Move(unittest.TestCase):
    STOCKED = READY + (("receive", 0, 10, -200, 0),)

    def test_answers_where_it_was(self):
        self.assertEqual(run(self.STOCKED + (("move", 0, 1), ("move", 0, 0)))[-2:], [[0], [1]])

    def test_the_places_change_hands(self):
        self.assertEqual(free(*self.STOCKED), (90, 10))
        self.assertEqual(free(*self.STOCKED, ("move", 0, 1)), (100, 0))

    def test_no_such_lot_or_chamber(self):
        for l, c in ((1, 0), (0, 2), (1, 2), (UNSIGNED_MOST, 1), (0, UNSIGNED_MOST)):
            self.assertEqual(last(*self.STOCKED, ("move", l, c)), [-2])

    def test_a_lot_without_pallets(self):
        for emptied in (("throw", 0), ("ship", 0, 10), ("order", 0, 10)):
            self.assertEqual(last(*self.STOCKED, emptied, ("move", 0, 1)), [-2])
            self.assertEqual(last(*self.STOCKED, emptied, ("move", 0, 0)), [-2])

    def test_it_is_there_already(self):
        self.assertEqual(last(*self.STOCKED, ("move", 0, 0)), [-17])

    def test_there_already_is_told_before_no_room(self):
        full = READY + (("receive", 0, 10, -200, 1), ("move", 0, 1))
        self.assertEqual(last(*full), [-17])

    def test_one_place_too_few(self):
        calls = self.STOCKED + (("receive", 0, 1, -200, 1), ("move", 0, 1))
        self.assertEqual(last(*calls), [-28])
        self.assertEqual(free(*calls), (90, 9))

    def test_what_was_shipped_needs_no_place(self):
        self.assertEqual(last(*self.STOCKED, ("receive", 0, 1, -200, 1), ("ship", 0, 1), ("move", 0, 1)), [0])

    def test_a_spoiled_lot_can_be_moved(self):
        calls = COLD + (("kind", 0, 0, 1), ("receive", 0, 5, -200, 0), ("hours", 2), ("ship", 0, 1), ("move", 0, 1))
        self.assertEqual(run(calls)[-2:], [[-74], [0]])

    def test_the_core_follows_the_air_of_where_it_is(self):
        warm = (("begin", 1, 0), ("chamber", 0, 1, 10), ("chamber", 100, 1, 10), ("kind", 0, 24, 10000))
        calls = warm + (("receive", 0, 2, 0, 0), ("move", 0, 1), ("hours", 1), ("ship", 0, 1))
        # The other chamber drifts to 98: 24 harm are borne just so, 23 were not.
        self.assertEqual(last(*calls), [1])
        self.assertEqual(last(*[("kind", 0, 23, 10000) if call[0] == "kind" else call for call in calls]), [-74])


class Ship(unittest.TestCase):
    STOCKED = READY + (("receive", 0, 10, -200, 0),)

    def test_how_many_it_has_yet(self):
        told = run(self.STOCKED + (("ship", 0, 3), ("ship", 0, 1), ("ship", 0, 6)))
        self.assertEqual(told[-3:], [[7], [6], [0]])

    def test_the_places_are_free_again(self):
        self.assertEqual(free(*self.STOCKED, ("ship", 0, 3)), (93, 10))

    def test_no_such_lot(self):
        for l in (1, UNSIGNED_MOST):
            self.assertEqual(last(*self.STOCKED, ("ship", l, 1)), [-2])

    def test_shipped_to_its_last_pallet(self):
        gone = self.STOCKED + (("ship", 0, 10),)
        self.assertEqual(last(*gone), [0])
        self.assertEqual(free(*gone), (100, 10))
        for call in (("ship", 0, 1), ("ship", 0, 0), ("throw", 0), ("move", 0, 1)):
            self.assertEqual(last(*gone, call), [-2], call)
        self.assertEqual(last(*gone, ("order", 0, 1)), [-33])

    def test_none_or_more_than_it_has(self):
        for n in (0, 11, UNSIGNED_MOST):
            self.assertEqual(last(*self.STOCKED, ("ship", 0, n)), [-22])
        self.assertEqual(last(*self.STOCKED, ("ship", 0, 4), ("ship", 0, 7)), [-22])

    def test_nothing_spoiled_goes_out(self):
        calls = COLD + (("kind", 0, 0, 1), ("receive", 0, 5, -200, 0), ("hours", 2), ("ship", 0, 5))
        self.assertEqual(last(*calls), [-74])
        self.assertEqual(free(*calls), (95, 10))

    def test_the_refusal_told_first(self):
        spoiled = COLD + (("kind", 0, 0, 1), ("receive", 0, 5, -200, 0), ("hours", 2))
        self.assertEqual(last(*spoiled, ("ship", 0, 0)), [-22])
        self.assertEqual(last(*spoiled, ("ship", 0, 6)), [-22])
        self.assertEqual(last(*spoiled, ("ship", 1, 0)), [-2])
        self.assertEqual(last(*spoiled, ("throw", 0), ("ship", 0, 1)), [-2])


class Order(unittest.TestCase):
    # Lot 0 is two hours old, lot 1 one hour, lot 2 is new; they have 4, 3 and 5 pallets.
    THREE = READY + (
        ("receive", 0, 4, -200, 0), ("hours", 1), ("receive", 0, 3, -200, 1), ("hours", 1), ("receive", 0, 5, -200, 0),
    )

    def test_the_oldest_first_and_of_the_last_a_part(self):
        self.assertEqual(last(*self.THREE, ("order", 0, 1)), [1, 0, 1])
        self.assertEqual(last(*self.THREE, ("order", 0, 4)), [1, 0, 4])
        self.assertEqual(last(*self.THREE, ("order", 0, 5)), [2, 0, 4, 1, 1])
        self.assertEqual(last(*self.THREE, ("order", 0, 9)), [3, 0, 4, 1, 3, 2, 2])

    def test_they_are_gone_then(self):
        calls = self.THREE + (("order", 0, 5),)
        self.assertEqual(free(*calls), (95, 8))
        self.assertEqual(last(*calls, ("throw", 0)), [-2])
        self.assertEqual(last(*calls, ("throw", 1)), [2])
        self.assertEqual(last(*calls, ("order", 0, 3)), [2, 1, 2, 2, 1])

    def test_all_there_is_and_one_more(self):
        self.assertEqual(last(*self.THREE, ("order", 0, 12)), [3, 0, 4, 1, 3, 2, 5])
        self.assertEqual(free(*self.THREE, ("order", 0, 12)), (100, 10))
        self.assertEqual(last(*self.THREE, ("order", 0, 12), ("order", 0, 1)), [-33])
        self.assertEqual(last(*self.THREE, ("order", 0, 13)), [-33])
        self.assertEqual(free(*self.THREE, ("order", 0, 13)), (91, 7))

    def test_lots_of_a_single_pallet(self):
        calls = READY + (("receive", 0, 1, -200, 0), ("receive", 0, 1, -200, 1))
        self.assertEqual(last(*calls, ("order", 0, 2)), [2, 0, 1, 1, 1])

    def test_600_and_601(self):
        calls = [("begin", 6, -200)] + [("chamber", -200, 50, 100)] * 6 + [LASTING]
        calls += [("receive", 0, 100, -200, c) for c in range(6)]
        self.assertEqual(last(*calls, ("order", 0, 600)), [6, 0, 100, 1, 100, 2, 100, 3, 100, 4, 100, 5, 100])
        self.assertEqual(last(*calls, ("order", 0, 601)), [-22])

    def test_out_of_range(self):
        for n in (0, 601, UNSIGNED_MOST):
            self.assertEqual(last(*self.THREE, ("order", 0, n)), [-22])

    def test_no_such_kind(self):
        for k in (1, UNSIGNED_MOST):
            self.assertEqual(last(*self.THREE, ("order", k, 1)), [-2])

    def test_the_refusal_told_first(self):
        self.assertEqual(last(*READY, ("order", 1, 0)), [-2])
        self.assertEqual(last(*READY, ("order", 1, 1)), [-2])
        self.assertEqual(last(*READY, ("order", 0, 601)), [-22])
        self.assertEqual(last(*READY, ("order", 0, 0)), [-22])
        self.assertEqual(last(*READY, ("order", 0, 600)), [-33])

    def test_only_lots_of_its_kind(self):
        calls = READY + (LASTING, ("receive", 0, 4, -200, 0), ("receive", 1, 3, -200, 0))
        self.assertEqual(last(*calls, ("order", 1, 3)), [1, 1, 3])
        self.assertEqual(last(*calls, ("order", 1, 4)), [-33])

    def test_two_lots_of_one_hour_go_by_their_numbers(self):
        calls = READY + (("receive", 0, 2, -200, 1), ("receive", 0, 2, -200, 0), ("hours", 3))
        self.assertEqual(last(*calls, ("order", 0, 3)), [2, 0, 2, 1, 1])

    def test_of_one_hour_the_one_with_more_harm_first(self):
        kind = ("kind", -100, 100000, 10000)
        calls = COLD + (kind, ("receive", 0, 2, -200, 0), ("receive", 0, 2, 300, 0), ("hours", 1))
        self.assertEqual(last(*calls, ("order", 0, 3)), [2, 1, 2, 0, 1])

    def test_age_counts_before_harm(self):
        kind = ("kind", -100, 100000, 10000)
        calls = COLD + (kind, ("receive", 0, 2, -200, 0), ("hours", 1), ("receive", 0, 2, 300, 0), ("hours", 1))
        self.assertEqual(last(*calls, ("order", 0, 3)), [2, 0, 2, 1, 1])

    def test_what_is_older_by_number_but_came_later_waits(self):
        calls = READY + (
            ("receive", 0, 1, -200, 0), ("hours", 1), ("ship", 0, 1), ("receive", 0, 2, -200, 0), ("hours", 1),
            ("receive", 0, 2, -200, 0),
        )
        self.assertEqual(last(*calls, ("order", 0, 3)), [2, 1, 2, 2, 1])

    def test_spoiled_lots_are_not_in_the_line(self):
        kind = ("kind", 0, 0, 2)
        calls = COLD + (kind, ("receive", 0, 4, -200, 0), ("hours", 1), ("receive", 0, 3, -200, 0))
        self.assertEqual(last(*calls, ("hours", 1), ("order", 0, 7)), [2, 0, 4, 1, 3])
        self.assertEqual(last(*calls, ("hours", 2), ("order", 0, 4)), [-33])
        self.assertEqual(last(*calls, ("hours", 2), ("order", 0, 3)), [1, 1, 3])
        self.assertEqual(last(*calls, ("hours", 3), ("order", 0, 1)), [-33])


class Throw(unittest.TestCase):
    def test_all_its_pallets_go(self):
        calls = READY + (("receive", 0, 7, -200, 1), ("ship", 0, 2), ("throw", 0))
        self.assertEqual(last(*calls), [5])
        self.assertEqual(free(*calls), (100, 10))
        self.assertEqual(last(*calls, ("throw", 0)), [-2])

    def test_what_is_spoiled_can_be_thrown_away(self):
        calls = COLD + (("kind", 0, 0, 1), ("receive", 0, 5, -200, 0), ("hours", 2), ("ship", 0, 1), ("throw", 0))
        self.assertEqual(run(calls)[-2:], [[-74], [5]])

    def test_no_such_lot(self):
        for l in (0, UNSIGNED_MOST):
            self.assertEqual(last(*READY, ("throw", l)), [-2])

    def test_the_others_stay(self):
        calls = READY + (("receive", 0, 7, -200, 0), ("receive", 0, 2, -200, 0), ("throw", 0), ("order", 0, 2))
        self.assertEqual(last(*calls), [1, 1, 2])
