"""The calls that tell what comes if nothing's done, and that it comes: soon, reach, ahead, cool."""

import unittest

from tests.helper import EVERYTHING, UNSIGNED_MOST, any_line, hours_in_pieces, is_refusal, last, run

# Nothing leaks here: outside is as warm as the chamber is.
STILL = (("begin", 1, 0), ("chamber", 0, 50, 100))
LINES = 120
# So many calls of a line leave room behind them for what is asked.
SHORT = 90


def spoils(kind, core, *calls):
    return last(*STILL, kind, ("receive", 0, 2, core, 0), *calls, ("soon", 0))


class Soon(unittest.TestCase):
    def test_by_its_hours(self):
        self.assertEqual(spoils(("kind", 0, 0, 1), 0), [2])
        self.assertEqual(spoils(("kind", 0, 0, 50), 0), [51])
        self.assertEqual(spoils(("kind", 0, 0, 50), 0, ("hours", 50)), [1])

    def test_by_its_harm(self):
        # The core goes 40, 30, 22, 16, 12, 9: harm of 20, 32, 38, 40, and then no more.
        told = [spoils(("kind", 10, bears, 10000), 40) for bears in (0, 19, 20, 31, 32, 37, 38, 39, 40)]
        self.assertEqual(told, [[1], [1], [2], [2], [3], [3], [4], [4], [-33]])

    def test_0_if_it_is_spoiled(self):
        self.assertEqual(spoils(("kind", 0, 0, 50), 0, ("hours", 51)), [0])
        self.assertEqual(spoils(("kind", 10, 19, 10000), 40, ("hours", 1)), [0])
        self.assertEqual(spoils(("kind", 0, 0, 50), 0, ("hours", 200)), [0])

    def test_within_400_hours(self):
        self.assertEqual(spoils(("kind", 0, 0, 398), 0), [399])
        self.assertEqual(spoils(("kind", 0, 0, 399), 0), [400])
        self.assertEqual(spoils(("kind", 0, 0, 400), 0), [-33])
        self.assertEqual(spoils(("kind", 0, 0, 400), 0, ("hours", 1)), [400])
        self.assertEqual(spoils(("kind", -10, 3999, 10000), 0), [400])
        self.assertEqual(spoils(("kind", -10, 4000, 10000), 0), [-33])

    def test_no_such_lot(self):
        for l in (0, UNSIGNED_MOST):
            self.assertEqual(last(*STILL, ("soon", l)), [-2])
        for l in (1, UNSIGNED_MOST):
            self.assertEqual(last(*STILL, ("kind", 0, 0, 50), ("receive", 0, 2, 0, 0), ("soon", l)), [-2])

    def test_a_lot_without_pallets(self):
        for gone in (("ship", 0, 2), ("order", 0, 2), ("throw", 0)):
            self.assertEqual(spoils(("kind", 0, 0, 50), 0, gone), [-2])
        self.assertEqual(spoils(("kind", 0, 0, 50), 0, ("ship", 0, 1)), [51])
        self.assertEqual(spoils(("kind", 0, 0, 50), 0, ("hours", 60), ("throw", 0)), [-2])

    def test_by_the_air_of_where_it_is(self):
        calls = (("begin", 1, 0), ("chamber", 0, 50, 9), ("chamber", 100, 50, 9), ("kind", 0, 20, 10000))
        calls += (("receive", 0, 1, 0, 0), ("receive", 0, 1, 0, 1))
        self.assertEqual(run(calls + (("soon", 0), ("soon", 1)))[-2:], [[-33], [1]])
        self.assertEqual(last(*calls, ("move", 0, 1), ("soon", 0)), [1])
        self.assertEqual(last(*calls, ("move", 1, 0), ("soon", 1)), [-33])

    def test_by_the_frost_the_doors_and_the_mains_to_come(self):
        calls = (("begin", 1, 300), ("chamber", -100, 60, 9), ("kind", -50, 2000, 10000), ("receive", 0, 1, -100, 0))
        for change in ((), (("mains", 0),), (("open", 0),), (("thaw", 0, 10),), (("outside", 450), ("open", 0))):
            hours = last(*calls, *change, ("soon", 0))[0]
            self.assertGreater(hours, 1)
            self.assertEqual(last(*calls, *change, *hours_in_pieces(hours - 1, 200), ("lot", 0))[6], 0)
            self.assertEqual(last(*calls, *change, *hours_in_pieces(hours, 200), ("lot", 0))[6], 1)


class Reach(unittest.TestCase):
    # One cools at once. The first holds that turn until the cold outside has brought it to its aim, in 176 hours;
    # the next four take 47 and three times 48 hours for 49 tenths; so the last one's first turn is in hour 368.
    QUEUE = (
        ("begin", 1, -450), ("chamber", 500, 1, 10), *[("chamber", -450, 2, 10)] * 5, ("aim", 0, -450),
        *[("aim", c, -499) for c in range(1, 5)],
    )

    def test_0_if_it_is_no_warmer(self):
        self.assertEqual(last(*STILL, ("reach", 0)), [0])
        self.assertEqual(last(*STILL, ("aim", 0, 5), ("reach", 0)), [0])
        self.assertEqual(last(*STILL, ("aim", 0, 5), ("outside", 500), ("mains", 0), ("reach", 0)), [0])

    def test_by_its_power_and_the_frost(self):
        told = [last(*STILL, ("aim", 0, t), ("reach", 0)) for t in (-1, -50, -51)]
        self.assertEqual(told, [[1], [1], [2]])
        # By 30, then by 29 for the frost, and 29 again; from -50 on it drifts by 1 an hour: -30, -59, -87.
        calls = (("begin", 1, 0), ("chamber", 0, 30, 10))
        told = [last(*calls, ("aim", 0, t), ("reach", 0)) for t in (-30, -31, -59, -60, -87, -88)]
        self.assertEqual(told, [[1], [2], [2], [3], [3], [4]])

    def test_by_the_cold_outside(self):
        # 1 an hour, however little it is colder.
        calls = (("begin", 1, 0), ("chamber", 40, 50, 10), ("mains", 0), ("aim", 0, 0))
        self.assertEqual(last(*calls, ("reach", 0)), [40])
        self.assertEqual(last(*calls, ("aim", 0, 39), ("reach", 0)), [1])
        self.assertEqual(last(*calls, ("aim", 0, -1), ("reach", 0)), [-33])

    def test_never(self):
        self.assertEqual(last(*STILL, ("aim", 0, -1), ("mains", 0), ("reach", 0)), [-33])
        self.assertEqual(last(("begin", 1, 500), ("chamber", 500, 10, 10), ("aim", 0, -500), ("reach", 0)), [-33])
        full = (("begin", 1, 0), ("chamber", 0, 200, 10), ("open", 0), ("hours", 20), ("close", 0), ("aim", 0, -1))
        self.assertEqual(last(*full, ("reach", 0)), [-33])

    def test_once_it_is_not_thawed_any_more(self):
        # 5, 9 and 13 warmer for the thaw, and then it cools.
        self.assertEqual(last(*STILL, ("aim", 0, -1), ("thaw", 0, 3), ("reach", 0)), [4])

    def test_once_it_is_its_turn(self):
        calls = (("begin", 1, 0), ("chamber", 0, 30, 10), ("chamber", 0, 30, 10), ("aim", 0, -40), ("aim", 1, -40))
        self.assertEqual(run(calls + (("reach", 0), ("reach", 1)))[-2:], [[2], [4]])

    def test_within_400_hours(self):
        self.assertEqual(last(*self.QUEUE, ("aim", 5, -452), ("reach", 5)), [368])
        self.assertEqual(last(*self.QUEUE, ("aim", 5, -483), ("reach", 5)), [399])
        self.assertEqual(last(*self.QUEUE, ("aim", 5, -484), ("reach", 5)), [400])
        self.assertEqual(last(*self.QUEUE, ("aim", 5, -485), ("reach", 5)), [-33])
        self.assertEqual(last(*self.QUEUE, ("aim", 5, -485), ("hours", 1), ("reach", 5)), [400])

    def test_the_400_hours_as_they_go_by(self):
        calls = self.QUEUE + (("aim", 5, -484),)
        for piece in (57, 133, 200):
            told = run([*calls, *hours_in_pieces(399, piece), ("look", 5), ("hours", 1), ("look", 5)])
            self.assertEqual((told[-3][1], told[-1][1]), (-483, -484))

    def test_no_such_chamber(self):
        for c in (1, UNSIGNED_MOST):
            self.assertEqual(last(*STILL, ("reach", c)), [-2])


class Ahead(unittest.TestCase):
    def test_without_chambers_and_lots(self):
        self.assertEqual(last(("begin", 1, 0), ("ahead", 1)), [0, 0])
        self.assertEqual(last(("begin", 1, 0), ("ahead", 200)), [0, 0])

    def test_by_hand(self):
        # Drifts by 10, cools by 9; drifts by 9, cools by 8. The other one has no turn.
        calls = (("begin", 1, 200), ("chamber", -300, 9, 10), ("chamber", -300, 9, 10))
        self.assertEqual(last(*calls, ("ahead", 1)), [0, 9, -299, -290])
        self.assertEqual(last(*calls, ("ahead", 2)), [0, 17, -298, -281])

    def test_what_was_cooled_before_is_not_in_it(self):
        calls = (("begin", 1, 200), ("chamber", -300, 9, 10), ("hours", 1))
        self.assertEqual(last(*calls, ("ahead", 1)), [0, 8, -298])

    def test_out_of_range(self):
        for n in (0, 201, UNSIGNED_MOST):
            self.assertEqual(last(*STILL, ("ahead", n)), [-22])

    def test_200_hours(self):
        calls = (*STILL, ("kind", 0, 0, 199), ("kind", 0, 0, 200), ("receive", 0, 1, 0, 0), ("receive", 1, 1, 0, 0))
        self.assertEqual(last(*calls, ("ahead", 199)), [0, 0, 0])
        self.assertEqual(last(*calls, ("ahead", 200)), [1, 0, 0])

    def test_lots_that_are_spoiled_then(self):
        calls = (*STILL, ("kind", 0, 0, 2), ("kind", 10, 31, 10000), ("receive", 0, 1, 0, 0), ("receive", 1, 1, 40, 0))
        self.assertEqual([last(*calls, ("ahead", n))[0] for n in (1, 2, 3)], [0, 1, 2])
        self.assertEqual(last(*calls, ("hours", 5), ("ahead", 1))[0], 2)
        for gone in (("ship", 0, 1), ("throw", 0)):
            self.assertEqual([last(*calls, gone, ("ahead", n))[0] for n in (1, 2, 3)], [0, 1, 1])
        self.assertEqual(last(*calls, ("hours", 5), ("throw", 1), ("ahead", 1))[0], 1)

    def test_a_warmth_for_each_chamber(self):
        calls = (("begin", 6, 0), *[("chamber", 10 * c, 50, 10) for c in range(6)], ("mains", 0))
        self.assertEqual(last(*calls, ("ahead", 1)), [0, 0, 0, 9, 19, 29, 39, 49])


class Cool(unittest.TestCase):
    THREE = (("begin", 2, 200), *[("chamber", -300, 50, 10)] * 3)

    def test_without_chambers(self):
        self.assertEqual(last(("begin", 1, 0), ("cool",)), [0])

    def test_those_that_are_above_their_aim_once_the_drift_is_in(self):
        # At its aim now, above it in the hour; and the other way round.
        self.assertEqual(last(("begin", 1, 50), ("chamber", 0, 50, 10), ("cool",)), [1, 0])
        self.assertEqual(last(("begin", 1, 49), ("chamber", 0, 50, 10), ("cool",)), [0])
        self.assertEqual(last(("begin", 1, -10), ("chamber", 0, 50, 10), ("aim", 0, -1), ("cool",)), [0])
        self.assertEqual(last(("begin", 1, -10), ("chamber", 0, 50, 10), ("aim", 0, -2), ("cool",)), [1, 0])

    def test_an_aim_set_above_what_it_is(self):
        calls = (("begin", 1, 100), ("chamber", 0, 50, 10))
        self.assertEqual([last(*calls, ("aim", 0, t), ("cool",)) for t in (1, 2, 3)], [[1, 0], [0], [0]])

    def test_three_want_to_and_two_can(self):
        self.assertEqual(last(*self.THREE, ("cool",)), [2, 0, 1])
        self.assertEqual(last(*self.THREE, ("aim", 0, -200), ("cool",)), [2, 1, 2])
        self.assertEqual(last(*self.THREE, ("thaw", 1, 1), ("cool",)), [2, 0, 2])
        self.assertEqual(last(*self.THREE, ("thaw", 1, 1), ("hours", 1), ("cool",)), [2, 0, 1])

    def test_every_most_from_1_to_6(self):
        for most in range(1, 7):
            calls = (("begin", most, 200), *[("chamber", -300, 50, 10)] * 6, ("cool",))
            self.assertEqual(last(*calls), [most, *range(most)])

    def test_none_without_mains(self):
        self.assertEqual(last(*self.THREE, ("mains", 0), ("cool",)), [0])
        self.assertEqual(last(*self.THREE, ("mains", 0), ("mains", 1), ("cool",)), [2, 0, 1])

    def test_one_with_frost_of_100_takes_its_turn_all_the_same(self):
        calls = (("begin", 1, 0), ("chamber", 0, 200, 10), ("chamber", 0, 200, 10), ("open", 0), ("hours", 20))
        later = (("close", 0), ("aim", 0, -100), ("aim", 1, -100), ("cool",))
        self.assertEqual(last(*calls, *later), [1, 0])

    def test_thawed_while_its_door_is_open(self):
        calls = (("begin", 2, 200), ("chamber", -300, 50, 10), ("open", 0), ("thaw", 0, 2))
        self.assertEqual([last(*calls, *hours_in_pieces(n, 1), ("cool",)) for n in (0, 1, 2)], [[0], [0], [1, 0]])


def begun(seed):
    """The beginning of a line, a while of which has gone by, and how many chambers and lots it has."""
    calls = any_line(seed)[:SHORT]
    state = last(*calls, ("state",))
    return calls, state[3], state[5]


class ForeseenIsSo(unittest.TestCase):
    def test_soon(self):
        met = set()
        for seed in range(LINES):
            calls, chambers, lots = begun(seed)
            told = run([*calls, *[("soon", l) for l in range(lots)]])[len(calls):]
            for l in range(lots):
                hours = told[l][0] if told[l] != [-33] else 401
                met.add(min(hours, 1) if hours <= 400 else 401)
                for piece in (200, 67):
                    self.assert_spoiled(calls, l, hours, piece)
        self.assertEqual(met, {-2, 0, 1, 401})

    def assert_spoiled(self, calls, l, hours, piece):
        if hours == -2:
            self.assertEqual(last(*calls, ("lot", l))[0], 0)
            return
        self.assertNotEqual(last(*calls, ("lot", l))[0], 0)
        if hours <= 400:
            self.assertEqual(last(*calls, *hours_in_pieces(hours, piece), ("lot", l))[6], 1)
        if hours >= 1:
            self.assertEqual(last(*calls, *hours_in_pieces(hours - 1, piece), ("lot", l))[6], 0)

    def test_reach(self):
        met = set()
        for seed in range(LINES):
            calls, chambers, lots = begun(seed)
            for c in range(chambers):
                told = last(*calls, ("reach", c))[0]
                met.add(min(told, 1))
                self.assertEqual(told, self.first_hour_at_aim(calls, c))
        self.assertEqual(met, {-33, 0, 1})

    def first_hour_at_aim(self, calls, c):
        """By looking hour by hour, as many hours a list as it has room for."""
        for gone in range(0, 401, 80):
            looks = [("look", c), ("hours", 1)] * min(80, 401 - gone)
            told = run([*calls, *hours_in_pieces(gone, 200), *looks])[-len(looks)::2]
            for hour, answer in enumerate(told, start=gone):
                if answer[1] <= answer[2]:
                    return hour
        return -33

    def test_ahead(self):
        for seed in range(LINES):
            calls, chambers, lots = begun(seed)
            looks = [("spoiled",), ("sums",)] + [("look", c) for c in range(chambers)]
            for hours, piece in ((1, 1), (13, 1), (90, 1), (120, 17), (200, 2), (200, 200)):
                asked = [*calls, ("sums",), ("ahead", hours), *hours_in_pieces(hours, piece), *looks]
                told = run(asked)
                before, foreseen = told[len(calls):len(calls) + 2]
                spoiled, sums, *chambers_then = told[-len(looks):]
                then = [spoiled[0], sums[5] - before[5]] + [answer[1] for answer in chambers_then]
                self.assertEqual(foreseen, then)

    def test_pick(self):
        met = 0
        for seed in range(LINES):
            calls = any_line(seed)[:SHORT]
            for k in range(3):
                for n in (1, 10, 40):
                    pick, order = run([*calls, ("pick", k, n), ("order", k, n)])[-2:]
                    self.assertEqual(pick, order)
                    met += not is_refusal(pick)
        self.assertGreater(met, 50)

    def test_cool(self):
        for seed in range(LINES):
            calls, chambers, lots = begun(seed)
            looks = [(name, c) for c in range(chambers) for name in ("look", "air")]
            told = run([*calls, *looks, ("sums",), ("cool",), ("hours", 1), ("sums",), *looks])
            told = told[len(calls):]
            count = len(looks)
            before, air, after = told[0:count:2], told[1:count:2], told[-count::2]
            cooling = told[count + 1][1:]
            together = 0
            for c in range(chambers):
                drifted = before[c][1] + air[c][1]
                colder = min(air[c][0], drifted - before[c][2]) if c in cooling else 0
                together += colder
                thawed = before[c][5] > 0
                self.assertEqual(after[c][1], drifted - colder + (5 if thawed else 0))
                more = (1 if c in cooling else 0) + (5 if before[c][4] == 1 else 0)
                frost = max(0, before[c][0] - 20) if thawed else min(100, before[c][0] + more)
                self.assertEqual(after[c][0], frost)
                self.assertFalse(c in cooling and (thawed or drifted <= before[c][2]))
            self.assertEqual(told[count + 3][5] - told[count][5], together)

    def test_foreseeing_leaves_everything_as_it_was(self):
        for seed in range(LINES):
            calls, chambers, lots = begun(seed)
            asked = [("soon", l) for l in range(lots)] + [("reach", c) for c in range(chambers)]
            asked += [("ahead", 1), ("ahead", 200), ("cool",)]
            told = run([*calls, *asked, *asked, *EVERYTHING])[len(calls):]
            self.assertEqual(told[:len(asked)], told[len(asked):2 * len(asked)])
            self.assertEqual(told[2 * len(asked):], run([*calls, *EVERYTHING])[len(calls):])
