"""The calls that tell what is: air, lot, spoiled, inside, line, pick, fits, warm, worst, sums, state."""

import unittest

from tests.helper import EVERYTHING, UNSIGNED_MOST, hours_in_pieces, last, run

# Nothing leaks here: outside is as warm as the chambers are.
STILL = (("begin", 6, 0), ("chamber", 0, 50, 100), ("chamber", 0, 50, 10))
LASTING = ("kind", 0, 0, 10000)
READY = STILL + (LASTING,)
# Good for 2 hours, spoiled in the third.
SHORT = STILL + (("kind", 0, 0, 2),)


class Air(unittest.TestCase):
    READY = (("begin", 2, 200), ("chamber", -180, 50, 10), ("chamber", -100, 30, 20))

    def drift(self, outside, aim, *calls):
        return last(("begin", 1, outside), ("chamber", aim, 50, 10), *calls, ("air", 0))[1]

    def test_what_it_could_cool_and_its_drift(self):
        self.assertEqual(last(*self.READY, ("air", 0)), [50, 7])
        self.assertEqual(last(*self.READY, ("air", 1)), [30, 6])

    def test_no_such_chamber(self):
        for c in (2, UNSIGNED_MOST):
            self.assertEqual(last(*self.READY, ("air", c)), [-2])

    def test_the_aim_is_not_looked_at(self):
        for t in (-500, -181, -179, 500):
            self.assertEqual(last(*self.READY, ("aim", 0, t), ("air", 0)), [50, 7])

    def test_frost_takes_its_part_rounded_down(self):
        self.assertEqual(last(*self.READY, ("hours", 1), ("air", 0)), [49, 7])
        self.assertEqual(last(*self.READY, ("hours", 2), ("air", 0)), [49, 7])
        self.assertEqual(last(*self.READY, ("hours", 3), ("air", 0)), [48, 7])

    def test_frost_of_100_and_of_99(self):
        full = (("begin", 1, 0), ("chamber", 0, 200, 10), ("open", 0), ("hours", 20), ("air", 0))
        self.assertEqual(last(*full), [0, 0])
        almost = (("begin", 1, 50), ("chamber", 0, 200, 10), ("hours", 4), ("outside", 0), ("open", 0), ("hours", 19))
        self.assertEqual(last(*almost, ("air", 0)), [2, 0])

    def test_power_1_with_any_frost(self):
        calls = (("begin", 1, 50), ("chamber", 0, 1, 10))
        self.assertEqual(last(*calls, ("air", 0)), [1, 1])
        self.assertEqual(last(*calls, ("hours", 1), ("air", 0)), [0, 1])

    def test_neither_mains_nor_thaw_nor_most_are_looked_at(self):
        self.assertEqual(last(*self.READY, ("mains", 0), ("air", 0)), [50, 7])
        self.assertEqual(last(*self.READY, ("thaw", 0, 3), ("air", 0)), [50, 7])
        self.assertEqual(last(("begin", 1, 200), *self.READY[1:], ("air", 1)), [30, 6])

    def test_drift_with_the_door_open(self):
        self.assertEqual(last(*self.READY, ("open", 0), ("air", 0)), [50, 83])
        self.assertEqual(last(*self.READY, ("open", 0), ("air", 1)), [30, 6])
        self.assertEqual(last(*self.READY, ("open", 0), ("close", 0), ("air", 0)), [50, 7])

    def test_a_drift_that_is_less_than_1(self):
        self.assertEqual([self.drift(outside, 0) for outside in (0, 1, 49, 50, 99, 100)], [0, 0, 0, 1, 1, 2])
        self.assertEqual([self.drift(outside, 0, ("open", 0)) for outside in (4, 5, 9, 10)], [0, 1, 1, 2])

    def test_a_drift_below_0_is_further_down(self):
        self.assertEqual([self.drift(outside, 0) for outside in (-1, -49, -50, -51, -100)], [-1, -1, -1, -2, -2])
        self.assertEqual([self.drift(outside, 0, ("open", 0)) for outside in (-1, -4, -5)], [-1, -1, -2])

    def test_the_widest_drift(self):
        self.assertEqual(self.drift(500, -500, ("open", 0)), 220)
        self.assertEqual(self.drift(-500, 500, ("open", 0)), -220)

    def test_it_follows_what_is_outside_now_and_how_warm_it_is_now(self):
        self.assertEqual(self.drift(0, 0, ("outside", 100)), 2)
        self.assertEqual(self.drift(500, 0, ("mains", 0)), 10)
        self.assertEqual(self.drift(500, 0, ("mains", 0), ("hours", 1)), 9)


class LotCall(unittest.TestCase):
    def test_as_it_came(self):
        calls = READY + (LASTING, ("receive", 0, 1, 3, 0), ("receive", 1, 7, -100, 1))
        self.assertEqual(last(*calls, ("lot", 0)), [1, 0, 0, 3, 0, 0, 0])
        self.assertEqual(last(*calls, ("lot", 1)), [7, 1, 1, -100, 0, 0, 0])

    def test_there_was_never_such_a_lot(self):
        for l in (0, UNSIGNED_MOST):
            self.assertEqual(last(*READY, ("lot", l)), [-2])
        for l in (1, 30, UNSIGNED_MOST):
            self.assertEqual(last(*READY, ("receive", 0, 1, 0, 0), ("lot", l)), [-2])
        self.assertEqual(last(*READY, ("receive", 0, 0, 0, 0), ("lot", 0)), [-2])

    def test_the_thirtieth(self):
        calls = READY + (("receive", 0, 1, 0, 0),) * 30
        self.assertEqual(last(*calls, ("lot", 29)), [1, 0, 0, 0, 0, 0, 0])
        self.assertEqual(last(*calls, ("receive", 0, 1, 0, 0), ("lot", 30)), [-2])

    def test_core_harm_and_hours_go_on(self):
        # The core goes 40, 30, 22, 16, 12, 9; what is above 10 is harm.
        calls = STILL + (("kind", 10, 38, 10000), ("receive", 0, 5, 40, 0))
        each = [[30, 20, 1, 0], [22, 32, 2, 0], [16, 38, 3, 0], [12, 40, 4, 1], [9, 40, 5, 1]]
        for hours, told in enumerate(each, start=1):
            self.assertEqual(last(*calls, ("hours", hours), ("lot", 0)), [5, 0, 0] + told)

    def test_a_quarter_of_what_is_below_0(self):
        for core, later in ((1, 0), (4, 3), (5, 3), (-1, -1), (-4, -3), (-5, -4), (-3, -3)):
            calls = READY + (("receive", 0, 1, core, 0), ("hours", 1), ("lot", 0))
            self.assertEqual(last(*calls)[3], later, core)

    def test_where_it_is_and_what_it_has_yet(self):
        calls = READY + (("receive", 0, 9, 0, 0), ("move", 0, 1), ("ship", 0, 2), ("lot", 0))
        self.assertEqual(last(*calls), [7, 0, 1, 0, 0, 0, 0])

    def test_one_without_pallets_is_told_as_it_was_when_it_went(self):
        calls = STILL + (("kind", 10, 50, 10000), ("receive", 0, 5, 40, 1), ("hours", 2))
        for gone in (("ship", 0, 5), ("order", 0, 5), ("throw", 0)):
            self.assertEqual(last(*calls, gone, ("lot", 0)), [0, 0, 1, 22, 32, 2, 0])
            self.assertEqual(last(*calls, gone, ("hours", 9), ("lot", 0)), [0, 0, 1, 22, 32, 2, 0])

    def test_a_spoiled_one_that_was_thrown_away_stays_so(self):
        calls = SHORT + (("receive", 0, 5, 0, 0), ("hours", 3), ("throw", 0), ("lot", 0))
        self.assertEqual(last(*calls), [0, 0, 0, 0, 0, 3, 1])

    def test_the_hour_in_which_it_spoils(self):
        calls = SHORT + (("receive", 0, 5, 0, 0),)
        self.assertEqual([last(*calls, ("hours", n), ("lot", 0))[6] for n in (1, 2, 3, 4)], [0, 0, 1, 1])
        warm = STILL + (("kind", -10, 20, 10000), ("receive", 0, 5, 0, 0))
        self.assertEqual([last(*warm, ("hours", n), ("lot", 0))[4:] for n in (1, 2, 3)], [[10, 1, 0], [20, 2, 0], [30, 3, 1]])


class SpoiledCall(unittest.TestCase):
    CALLS = SHORT + (
        ("receive", 0, 5, 0, 0), ("hours", 1), ("receive", 0, 5, 0, 1), LASTING, ("receive", 1, 5, 0, 0),
        ("receive", 0, 1, 0, 0),
    )

    def test_none(self):
        self.assertEqual(last(("begin", 1, 0), ("spoiled",)), [0])
        self.assertEqual(last(*self.CALLS, ("hours", 1), ("spoiled",)), [0])

    def test_these_in_order(self):
        self.assertEqual(last(*self.CALLS, ("hours", 2), ("spoiled",)), [1, 0])
        self.assertEqual(last(*self.CALLS, ("hours", 3), ("spoiled",)), [3, 0, 1, 3])

    def test_not_those_without_pallets(self):
        self.assertEqual(last(*self.CALLS, ("hours", 3), ("throw", 1), ("spoiled",)), [2, 0, 3])
        self.assertEqual(last(*self.CALLS, ("ship", 0, 5), ("hours", 3), ("spoiled",)), [2, 1, 3])

    def test_by_harm(self):
        calls = STILL + (("kind", 10, 19, 10000), ("kind", 10, 20, 10000), ("receive", 0, 1, 40, 0), ("receive", 1, 1, 40, 0))
        self.assertEqual(last(*calls, ("hours", 1), ("spoiled",)), [1, 0])
        self.assertEqual(last(*calls, ("hours", 2), ("spoiled",)), [2, 0, 1])


class Inside(unittest.TestCase):
    CALLS = READY + (LASTING, ("receive", 0, 4, 0, 0), ("receive", 0, 3, 0, 1), ("receive", 1, 8, 0, 0))

    def test_pallets_and_lots(self):
        self.assertEqual(last(*self.CALLS, ("inside", 0)), [12, 0, 4, 2, 8])
        self.assertEqual(last(*self.CALLS, ("inside", 1)), [3, 1, 3])

    def test_nothing_there(self):
        self.assertEqual(last(*READY, ("inside", 0)), [0])

    def test_no_such_chamber(self):
        for c in (2, UNSIGNED_MOST):
            self.assertEqual(last(*self.CALLS, ("inside", c)), [-2])

    def test_what_was_moved(self):
        told = run(self.CALLS + (("move", 0, 1), ("inside", 0), ("inside", 1)))
        self.assertEqual(told[-2:], [[8, 2, 8], [7, 0, 4, 1, 3]])

    def test_not_what_is_gone(self):
        self.assertEqual(last(*self.CALLS, ("ship", 2, 3), ("inside", 0)), [9, 0, 4, 2, 5])
        for gone in (("ship", 0, 4), ("order", 0, 4), ("throw", 0)):
            self.assertEqual(last(*self.CALLS, gone, ("inside", 0)), [8, 2, 8])

    def test_what_is_spoiled_is_there_all_the_same(self):
        self.assertEqual(last(*SHORT, ("receive", 0, 5, 0, 0), ("hours", 3), ("inside", 0)), [5, 0, 5])


class Line(unittest.TestCase):
    # Lot 0 is two hours old, lot 1 one hour, lot 2 is new; they have 4, 3 and 5 pallets.
    THREE = READY + (
        ("receive", 0, 4, 0, 0), ("hours", 1), ("receive", 0, 3, 0, 1), ("hours", 1), ("receive", 0, 5, 0, 0),
    )

    def test_the_oldest_first(self):
        self.assertEqual(last(*self.THREE, ("line", 0)), [3, 0, 1, 2])

    def test_no_lot_in_it(self):
        self.assertEqual(last(*READY, ("line", 0)), [0])
        self.assertEqual(last(*self.THREE, ("order", 0, 12), ("line", 0)), [0])

    def test_no_such_kind(self):
        for k in (1, UNSIGNED_MOST):
            self.assertEqual(last(*self.THREE, ("line", k)), [-2])

    def test_two_lots_of_one_hour(self):
        calls = STILL + (("kind", -100, 100000, 10000), ("receive", 0, 2, -200, 0), ("receive", 0, 2, 300, 0))
        self.assertEqual(last(*calls, ("line", 0)), [2, 0, 1])
        # The second one has more harm from then on.
        self.assertEqual(last(*calls, ("hours", 1), ("line", 0)), [2, 1, 0])
        self.assertEqual(last(*calls, ("hours", 1), ("receive", 0, 1, 500, 0), ("hours", 1), ("line", 0)), [3, 1, 0, 2])

    def test_of_the_same_harm_the_lesser_number(self):
        calls = READY + (("receive", 0, 2, 0, 1), ("receive", 0, 9, 0, 0), ("receive", 0, 1, 0, 0), ("hours", 3))
        self.assertEqual(last(*calls, ("line", 0)), [3, 0, 1, 2])

    def test_not_what_is_spoiled(self):
        calls = SHORT + (("receive", 0, 4, 0, 0), ("hours", 1), ("receive", 0, 3, 0, 0))
        told = [last(*calls, ("hours", n), ("line", 0)) for n in (1, 2, 3)]
        self.assertEqual(told, [[2, 0, 1], [1, 1], [0]])

    def test_only_its_own_kind_with_pallets(self):
        calls = self.THREE + (LASTING, ("receive", 1, 1, 0, 0), ("ship", 1, 3))
        self.assertEqual(run(calls + (("line", 0), ("line", 1)))[-2:], [[2, 0, 2], [1, 3]])


class Pick(unittest.TestCase):
    THREE = Line.THREE

    def test_what_order_would_answer(self):
        for n in (1, 4, 5, 7, 8, 9, 12, 13):
            self.assertEqual(last(*self.THREE, ("pick", 0, n)), last(*self.THREE, ("order", 0, n)))
        self.assertEqual(last(*self.THREE, ("pick", 0, 9)), [3, 0, 4, 1, 3, 2, 2])

    def test_all_there_is_and_one_more(self):
        self.assertEqual(last(*self.THREE, ("pick", 0, 12)), [3, 0, 4, 1, 3, 2, 5])
        self.assertEqual(last(*self.THREE, ("pick", 0, 13)), [-33])

    def test_600_and_601(self):
        calls = [("begin", 6, 0)] + [("chamber", 0, 50, 100)] * 6 + [LASTING]
        calls += [("receive", 0, 100, 0, c) for c in range(6)]
        self.assertEqual(last(*calls, ("pick", 0, 600)), [6, 0, 100, 1, 100, 2, 100, 3, 100, 4, 100, 5, 100])
        self.assertEqual(last(*calls, ("pick", 0, 601)), [-22])

    def test_refusals_in_their_order(self):
        for k in (1, UNSIGNED_MOST):
            for n in (0, 1, 601):
                self.assertEqual(last(*self.THREE, ("pick", k, n)), [-2])
        for n in (0, 601, UNSIGNED_MOST):
            self.assertEqual(last(*READY, ("pick", 0, n)), [-22])
        for n in (1, 600):
            self.assertEqual(last(*READY, ("pick", 0, n)), [-33])

    def test_nothing_goes_out(self):
        told = run(self.THREE + EVERYTHING + (("pick", 0, 12),) + EVERYTHING)
        self.assertEqual(told[-60:], told[-121:-61])
        told = run(self.THREE + (("pick", 0, 12), ("pick", 0, 12), ("order", 0, 12)))
        self.assertEqual(told[-3:], [[3, 0, 4, 1, 3, 2, 5]] * 3)


class Fits(unittest.TestCase):
    CALLS = (
        ("begin", 6, 0), ("chamber", -20, 50, 10), ("chamber", -10, 50, 100), ("chamber", -9, 50, 100),
        ("kind", -10, 0, 100), ("kind", 500, 0, 100), ("kind", -500, 0, 100),
    )

    def test_those_no_warmer_than_the_kind_may_be(self):
        self.assertEqual(last(*self.CALLS, ("fits", 0, 1)), [2, 0, 1])
        self.assertEqual(last(*self.CALLS, ("fits", 1, 1)), [3, 0, 1, 2])
        self.assertEqual(last(*self.CALLS, ("fits", 2, 1)), [0])

    def test_those_with_so_many_free_places(self):
        self.assertEqual(last(*self.CALLS, ("fits", 0, 10)), [2, 0, 1])
        self.assertEqual(last(*self.CALLS, ("fits", 0, 11)), [1, 1])
        self.assertEqual(last(*self.CALLS, ("fits", 1, 100)), [2, 1, 2])
        self.assertEqual(last(*self.CALLS, ("receive", 1, 1, 0, 1), ("fits", 1, 100)), [1, 2])
        self.assertEqual(last(*self.CALLS, ("receive", 1, 1, 0, 1), ("fits", 1, 99)), [2, 1, 2])
        self.assertEqual(last(*self.CALLS, ("receive", 1, 10, 0, 0), ("fits", 1, 1)), [2, 1, 2])

    def test_out_of_range(self):
        for n in (0, 101, UNSIGNED_MOST):
            self.assertEqual(last(*self.CALLS, ("fits", 0, n)), [-22])

    def test_no_such_kind_is_told_first(self):
        for k in (3, UNSIGNED_MOST):
            for n in (0, 1, 101):
                self.assertEqual(last(*self.CALLS, ("fits", k, n)), [-2])

    def test_no_chamber_at_all(self):
        self.assertEqual(last(("begin", 1, 0), LASTING, ("fits", 0, 1)), [0])

    def test_as_warm_as_it_is_now_and_not_as_it_should_be(self):
        self.assertEqual(last(*self.CALLS, ("aim", 2, -50), ("aim", 0, 50), ("fits", 0, 1)), [2, 0, 1])
        # -20, -10 and -9 drift by 0; thawed, the first is 5 warmer twice, then a third time.
        self.assertEqual(last(*self.CALLS, ("thaw", 0, 3), ("hours", 2), ("fits", 0, 1)), [2, 0, 1])
        self.assertEqual(last(*self.CALLS, ("thaw", 0, 3), ("hours", 3), ("fits", 0, 1)), [1, 1])


class Warm(unittest.TestCase):
    CALLS = (("begin", 6, 0), ("chamber", 0, 50, 10), ("chamber", 0, 50, 10), ("chamber", 0, 50, 10))

    def test_more_than_20_warmer_than_their_aim(self):
        self.assertEqual(last(*self.CALLS, ("aim", 0, -19), ("aim", 1, -20), ("aim", 2, -21), ("warm",)), [1, 2])
        self.assertEqual(last(*self.CALLS, ("aim", 0, -21), ("aim", 2, -500), ("warm",)), [2, 0, 2])

    def test_none(self):
        self.assertEqual(last(("begin", 1, 0), ("warm",)), [0])
        self.assertEqual(last(*self.CALLS, ("warm",)), [0])
        self.assertEqual(last(*self.CALLS, ("aim", 0, 21), ("aim", 1, 500), ("warm",)), [0])

    def test_as_the_hours_go_by(self):
        # By 10 warmer in the first hour, 9 in each of the next ones: 10, 19, 28.
        calls = (("begin", 1, 500), ("chamber", 0, 50, 10), ("mains", 0))
        self.assertEqual([last(*calls, ("hours", n), ("warm",)) for n in (1, 2, 3)], [[0], [0], [1, 0]])


class Worst(unittest.TestCase):
    def lots(self, *kinds):
        """A lot of each of these kinds (limit below 0, bears), an hour old: its harm is what the limit is below 0."""
        calls = [*STILL, *[("kind", -limit, bears, 10000) for limit, bears in kinds]]
        return calls + [("receive", k, 1, 0, 0) for k in range(len(kinds))] + [("hours", 1)]

    def test_no_lot_with_pallets(self):
        self.assertEqual(last(("begin", 1, 0), ("worst",)), [-6])
        self.assertEqual(last(*READY, ("worst",)), [-6])
        for gone in (("ship", 0, 2), ("order", 0, 2), ("throw", 0)):
            self.assertEqual(last(*READY, ("receive", 0, 2, 0, 0), gone, ("worst",)), [-6])

    def test_the_greatest_part(self):
        self.assertEqual(last(*self.lots((1, 2), (2, 4)), ("worst",)), [1, 2, 4])
        self.assertEqual(last(*self.lots((2, 4), (1, 2)), ("worst",)), [0, 2, 4])
        self.assertEqual(last(*self.lots((9, 99), (1, 2), (8, 99)), ("worst",)), [1, 1, 2])

    def test_the_part_is_of_one_more_than_it_bears(self):
        # 2 of 4 and 1 of 2 are alike; 2 of 3 and 1 of 1 would not be.
        self.assertEqual(last(*self.lots((2, 3), (1, 1)), ("worst",)), [0, 2, 3])
        self.assertEqual(last(*self.lots((1, 1), (2, 3)), ("worst",)), [0, 1, 1])
        self.assertEqual(last(*self.lots((5, 5), (1, 0)), ("worst",)), [1, 1, 0])

    def test_compared_exactly(self):
        # 499 of 100,000 is more than 498 of 99,800, and less than 498 of 99,799.
        self.assertEqual(last(*self.lots((498, 99799), (499, 99999)), ("worst",)), [1, 499, 99999])
        self.assertEqual(last(*self.lots((499, 99999), (498, 99799)), ("worst",)), [0, 499, 99999])
        self.assertEqual(last(*self.lots((498, 99798), (499, 99999)), ("worst",)), [0, 498, 99798])
        self.assertEqual(last(*self.lots((499, 99999), (498, 99798)), ("worst",)), [1, 498, 99798])

    def test_of_alike_ones_the_first(self):
        self.assertEqual(last(*READY, *[("receive", 0, 1, 0, 0)] * 3, ("worst",)), [0, 0, 0])
        calls = self.lots((3, 5), (3, 5), (6, 11))
        self.assertEqual(last(*calls, ("worst",)), [0, 3, 5])
        self.assertEqual(last(*calls, ("throw", 0), ("worst",)), [1, 3, 5])
        self.assertEqual(last(*calls, ("throw", 0), ("ship", 1, 1), ("worst",)), [2, 6, 11])

    def test_spoiled_ones_are_among_them(self):
        self.assertEqual(last(*self.lots((7, 10), (3, 0)), ("spoiled",)), [1, 1])
        self.assertEqual(last(*self.lots((7, 10), (3, 0)), ("worst",)), [1, 3, 0])

    def test_how_old_it_is_does_not_matter(self):
        calls = (*SHORT, ("receive", 0, 1, 0, 0), ("hours", 9), ("kind", -1, 100000, 10000), ("receive", 1, 1, 0, 0))
        self.assertEqual(last(*calls, ("worst",)), [0, 0, 0])
        self.assertEqual(last(*calls, ("hours", 1), ("worst",)), [1, 1, 100000])


class Sums(unittest.TestCase):
    def test_nothing_yet(self):
        self.assertEqual(last(("begin", 1, 0), ("sums",)), [0, 0, 0, 0, 0, 0])

    def test_what_came_is_inside_went_out_was_thrown_away(self):
        calls = READY + (("receive", 0, 9, 0, 0), ("receive", 0, 7, 0, 1), ("receive", 0, 20, 0, 0))
        self.assertEqual(last(*calls, ("sums",)), [0, 36, 36, 0, 0, 0])
        calls += (("ship", 0, 2), ("sums",))
        self.assertEqual(last(*calls), [0, 36, 34, 2, 0, 0])
        calls += (("order", 0, 10), ("sums",))
        self.assertEqual(last(*calls), [0, 36, 24, 12, 0, 0])
        calls += (("throw", 1), ("sums",))
        self.assertEqual(last(*calls), [0, 36, 20, 12, 4, 0])
        calls += (("move", 2, 0), ("hours", 5), ("order", 0, 20), ("sums",))
        self.assertEqual(last(*calls), [0, 36, 0, 32, 4, 0])

    def test_refused_pallets_are_in_no_sum(self):
        calls = READY + (("receive", 0, 9, 0, 0), ("receive", 0, 92, 0, 0), ("receive", 0, 0, 0, 0), ("receive", 1, 1, 0, 0))
        calls += (("ship", 0, 10), ("order", 0, 10), ("throw", 1), ("pick", 0, 9), ("sums",))
        self.assertEqual(last(*calls), [0, 9, 9, 0, 0, 0])

    def test_spoiled_pallets_are_inside_until_they_are_thrown_away(self):
        calls = SHORT + (("receive", 0, 9, 0, 0), ("hours", 3), ("ship", 0, 9), ("order", 0, 9))
        self.assertEqual(last(*calls, ("sums",)), [0, 9, 9, 0, 0, 0])
        self.assertEqual(last(*calls, ("throw", 0), ("sums",)), [0, 9, 0, 0, 9, 0])

    def cooled(self, *calls):
        return last(*calls, ("sums",))[5]

    def test_by_how_much_was_cooled(self):
        # By 9 of 10 in the first hour, by 8 of 9 in the second one.
        calls = (("begin", 1, 200), ("chamber", -300, 9, 10))
        self.assertEqual([self.cooled(*calls, ("hours", n)) for n in (1, 2)], [9, 17])
        self.assertEqual(self.cooled(*calls, ("hours", 1), ("hours", 1)), 17)

    def test_only_as_far_as_its_aim(self):
        self.assertEqual(self.cooled(("begin", 1, 200), ("chamber", -300, 200, 10), ("hours", 1)), 10)
        self.assertEqual(self.cooled(("begin", 1, 0), ("chamber", 0, 30, 10), ("aim", 0, -40), ("hours", 3)), 40)

    def test_all_chambers_together(self):
        calls = (("begin", 2, 200), *[("chamber", -300, 200, 10)] * 3, ("hours", 1))
        self.assertEqual(self.cooled(*calls), 20)

    def test_nothing_but_cooling_counts(self):
        # The cold outside, a thaw, an aim above, frost of 100, no mains.
        self.assertEqual(self.cooled(("begin", 1, -500), ("chamber", 0, 50, 10), ("hours", 9)), 0)
        self.assertEqual(self.cooled(("begin", 1, 500), ("chamber", 0, 50, 10), ("thaw", 0, 9), ("hours", 9)), 0)
        self.assertEqual(self.cooled(("begin", 1, 500), ("chamber", 0, 50, 10), ("aim", 0, 500), ("hours", 9)), 0)
        self.assertEqual(self.cooled(("begin", 1, 500), ("chamber", 0, 50, 10), ("mains", 0), ("hours", 9)), 0)
        full = (("begin", 1, 0), ("chamber", 0, 200, 10), ("open", 0), ("hours", 20), ("close", 0), ("aim", 0, -100))
        self.assertEqual(self.cooled(*full, ("hours", 9)), 0)

    def test_whatever_pieces_hours_come_in(self):
        calls = (("begin", 2, 300), *[("chamber", -200, 40, 10)] * 3, ("open", 1))
        whole = self.cooled(*calls, ("hours", 120))
        self.assertGreater(whole, 0)
        for piece in (1, 7, 60, 119):
            self.assertEqual(self.cooled(*calls, *hours_in_pieces(120, piece)), whole)

    def test_a_begin_begins_them_anew(self):
        calls = (("begin", 1, 200), ("chamber", -300, 9, 10), LASTING, ("receive", 0, 5, 0, 0), ("ship", 0, 1), ("hours", 1))
        self.assertEqual(last(*calls, ("sums",)), [0, 5, 4, 1, 0, 9])
        self.assertEqual(last(*calls, ("begin", 1, 0), ("sums",)), [0, 0, 0, 0, 0, 0])
        self.assertEqual(last(*calls, ("begin", 0, 0), ("sums",)), [0, 5, 4, 1, 0, 9])


class State(unittest.TestCase):
    def test_at_the_beginning(self):
        self.assertEqual(last(("begin", 3, -77), ("state",)), [0, 0, 1, 0, 0, 0, -77])

    def test_all_it_tells(self):
        calls = READY + (LASTING, LASTING, ("receive", 0, 1, 0, 0), ("hours", 7), ("mains", 0), ("outside", 123))
        self.assertEqual(last(*calls, ("state",)), [0, 7, 0, 2, 3, 1, 123])
        self.assertEqual(last(*calls, ("mains", 1), ("hours", 200), ("state",)), [0, 207, 1, 2, 3, 1, 123])

    def test_lots_there_have_been(self):
        calls = READY + (("receive", 0, 1, 0, 0), ("ship", 0, 1), ("receive", 0, 1, 0, 0), ("throw", 1), ("state",))
        self.assertEqual(last(*calls), [0, 0, 1, 2, 1, 2, 0])

    def test_as_many_as_there_can_be(self):
        calls = [("begin", 6, 0)] + [("chamber", 0, 50, 100)] * 7 + [LASTING] * 7 + [("receive", 0, 1, 0, 0)] * 31
        self.assertEqual(last(*calls, ("state",)), [0, 0, 1, 6, 6, 30, 0])

    def test_refusals_change_nothing_in_it(self):
        wrong = (("begin", 7, 9), ("chamber", 501, 1, 1), ("kind", 501, 1, 1), ("hours", 201), ("mains", 2), ("outside", 501))
        self.assertEqual(last(*READY, *wrong, ("state",)), last(*READY, ("state",)))


class Looking(unittest.TestCase):
    def test_each_looking_call_leaves_everything_as_it_was(self):
        calls = (
            ("begin", 1, 300), ("chamber", -100, 90, 50), ("chamber", -150, 30, 50), ("kind", -90, 400, 60), ("kind", 5, 3, 9),
            ("receive", 0, 5, -80, 0), ("receive", 1, 5, 40, 1), ("open", 0), ("hours", 4), ("thaw", 1, 3), ("hours", 1),
        )
        before = run(calls + EVERYTHING)[len(calls):]
        looks = (
            ("look", 0), ("air", 0), ("lot", 0), ("spoiled",), ("line", 0), ("pick", 0, 5), ("soon", 0), ("reach", 0),
            ("ahead", 200), ("fits", 1, 1), ("warm",), ("cool",), ("inside", 0), ("worst",), ("sums",), ("state",),
        )
        for call in looks:
            told = run(calls + (call, call) + EVERYTHING)
            self.assertEqual(told[len(calls)], told[len(calls) + 1], call)
            self.assertEqual(told[len(calls) + 2:], before, call)
