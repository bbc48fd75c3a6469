"""An hour's four steps; each number here is reckoned by hand from the document."""

import unittest

from tests.helper import last, run


def frost_and_warmth(*calls):
    told = last(*calls, ("look", 0))
    return told[0], told[1]


def warmths(chambers, *calls):
    told = run(list(calls) + [("look", c) for c in range(chambers)])
    return [answer[1] for answer in told[-chambers:]]


def frosts(chambers, *calls):
    told = run(list(calls) + [("look", c) for c in range(chambers)])
    return [answer[0] for answer in told[-chambers:]]


class Drift(unittest.TestCase):
    def unpowered(self, outside, aim, *calls):
        return frost_and_warmth(("begin", 1, outside), ("chamber", aim, 50, 10), ("mains", 0), *calls, ("hours", 1))[1]

    def test_a_fiftieth_with_the_door_closed(self):
        self.assertEqual(self.unpowered(200, -300), -290)
        self.assertEqual(self.unpowered(500, -500), -480)
        self.assertEqual(self.unpowered(200, -349), -339)
        self.assertEqual(self.unpowered(200, -350), -339)

    def test_eleven_fiftieths_with_the_door_open(self):
        self.assertEqual(self.unpowered(200, -300, ("open", 0)), -190)
        self.assertEqual(self.unpowered(500, -500, ("open", 0)), -280)
        self.assertEqual(self.unpowered(1, -3, ("open", 0)), -3)
        self.assertEqual(self.unpowered(2, -3, ("open", 0)), -2)

    def test_less_than_1_is_none(self):
        self.assertEqual(self.unpowered(49, 0), 0)
        self.assertEqual(self.unpowered(50, 0), 1)
        self.assertEqual(self.unpowered(0, 0), 0)

    def test_below_0_is_further_down(self):
        self.assertEqual(self.unpowered(-1, 0), -1)
        self.assertEqual(self.unpowered(-50, 0), -1)
        self.assertEqual(self.unpowered(-51, 0), -2)
        self.assertEqual(self.unpowered(-1, 0, ("open", 0)), -1)
        self.assertEqual(self.unpowered(-5, 0, ("open", 0)), -2)

    def test_it_follows_what_is_outside_now(self):
        self.assertEqual(self.unpowered(0, 0, ("outside", 100)), 2)

    def test_it_follows_the_warmth_and_not_the_aim(self):
        self.assertEqual(self.unpowered(100, 0, ("aim", 0, -400)), 2)


class Cooling(unittest.TestCase):
    def test_down_to_its_aim_and_not_below(self):
        self.assertEqual(frost_and_warmth(("begin", 1, 200), ("chamber", -300, 200, 10), ("hours", 1)), (1, -300))
        self.assertEqual(frost_and_warmth(("begin", 1, 200), ("chamber", -300, 10, 10), ("hours", 1)), (1, -300))

    def test_by_its_power_and_not_more(self):
        self.assertEqual(frost_and_warmth(("begin", 1, 200), ("chamber", -300, 9, 10), ("hours", 1)), (1, -299))

    def test_frost_takes_its_part_rounded_down(self):
        # With 1 frost 9 * 99 // 100 is 8; the chamber drifts by 9.
        calls = (("begin", 1, 200), ("chamber", -300, 9, 10), ("hours", 2))
        self.assertEqual(frost_and_warmth(*calls), (2, -298))

    def test_a_power_of_1_with_any_frost_cools_nothing(self):
        calls = (("begin", 1, 200), ("chamber", 0, 1, 10), ("aim", 0, -10), ("outside", 0))
        self.assertEqual(frost_and_warmth(*calls, ("hours", 1)), (1, -1))
        self.assertEqual(frost_and_warmth(*calls, ("hours", 2)), (2, -1))

    def test_an_aim_set_lower(self):
        calls = (("begin", 1, 0), ("chamber", 0, 30, 10), ("aim", 0, -50))
        self.assertEqual(frost_and_warmth(*calls, ("hours", 1)), (1, -30))
        self.assertEqual(frost_and_warmth(*calls, ("hours", 2)), (2, -50))

    def test_an_aim_set_above_what_it_is(self):
        # Nothing warms it on purpose, and nothing cools it until it is above that aim.
        calls = (("begin", 1, 100), ("chamber", 0, 50, 10), ("aim", 0, 3))
        self.assertEqual(frost_and_warmth(*calls, ("hours", 1)), (0, 2))
        self.assertEqual(frost_and_warmth(*calls, ("hours", 2)), (0, 3))
        self.assertEqual(frost_and_warmth(*calls, ("hours", 3)), (1, 3))

    def test_at_its_aim_it_does_not_cool(self):
        self.assertEqual(frost_and_warmth(("begin", 1, 100), ("chamber", 0, 50, 10), ("aim", 0, 2), ("hours", 1)), (0, 2))
        self.assertEqual(frost_and_warmth(("begin", 1, 0), ("chamber", 0, 50, 10), ("hours", 9)), (0, 0))

    def test_below_its_aim_by_the_cold_outside(self):
        self.assertEqual(frost_and_warmth(("begin", 1, -100), ("chamber", 0, 50, 10), ("hours", 1)), (0, -2))

    def test_none_without_mains(self):
        calls = (("begin", 6, 200), ("chamber", -300, 200, 10), ("mains", 0), ("hours", 1))
        self.assertEqual(frost_and_warmth(*calls), (0, -290))
        self.assertEqual(frost_and_warmth(*calls, ("mains", 1), ("hours", 1)), (1, -300))

    def test_three_want_to_cool_and_two_can(self):
        calls = (("begin", 2, 200),) + (("chamber", -300, 50, 10),) * 3
        self.assertEqual(warmths(3, *calls, ("hours", 1)), [-300, -300, -290])
        self.assertEqual(frosts(3, *calls, ("hours", 1)), [1, 1, 0])

    def test_those_that_do_not_want_to_leave_their_turn(self):
        calls = (("begin", 2, 200),) + (("chamber", -300, 50, 10),) * 3 + (("aim", 0, -200),)
        self.assertEqual(warmths(3, *calls, ("hours", 1)), [-290, -300, -300])

    def test_a_thawed_one_leaves_its_turn(self):
        calls = (("begin", 2, 200),) + (("chamber", -300, 50, 10),) * 3 + (("thaw", 1, 1), ("hours", 1))
        self.assertEqual(warmths(3, *calls), [-300, -285, -300])
        self.assertEqual(frosts(3, *calls), [1, 0, 1])

    def test_every_most_from_1_to_6(self):
        for most in range(1, 7):
            calls = (("begin", most, 200),) + (("chamber", -300, 50, 10),) * 6 + (("hours", 1),)
            self.assertEqual(warmths(6, *calls), [-300] * most + [-290] * (6 - most))


class Frost(unittest.TestCase):
    def test_an_open_door_brings_5_an_hour(self):
        calls = (("begin", 1, 0), ("chamber", 0, 50, 10), ("open", 0))
        self.assertEqual(frost_and_warmth(*calls, ("hours", 1)), (5, 0))
        self.assertEqual(frost_and_warmth(*calls, ("hours", 3)), (15, 0))
        self.assertEqual(frost_and_warmth(*calls, ("hours", 3), ("close", 0), ("hours", 3)), (15, 0))

    def test_cooling_and_an_open_door_bring_6(self):
        calls = (("begin", 1, 100), ("chamber", 0, 50, 10), ("open", 0), ("hours", 1))
        self.assertEqual(frost_and_warmth(*calls), (6, 0))

    def test_never_above_100(self):
        calls = (("begin", 1, 0), ("chamber", 0, 50, 10), ("open", 0))
        self.assertEqual(frost_and_warmth(*calls, ("hours", 19)), (95, 0))
        self.assertEqual(frost_and_warmth(*calls, ("hours", 20)), (100, 0))
        self.assertEqual(frost_and_warmth(*calls, ("hours", 21)), (100, 0))
        # 1 by cooling, nineteen hours of the open door to 96, and 5 more.
        odd = (("begin", 1, 0), ("chamber", 0, 200, 10), ("aim", 0, -1), ("hours", 1), ("aim", 0, 0), ("open", 0))
        self.assertEqual(frost_and_warmth(*odd, ("hours", 20))[0], 100)

    def test_frost_of_100_cools_nothing(self):
        full = (("begin", 1, 0), ("chamber", 0, 200, 10), ("open", 0), ("hours", 20), ("close", 0), ("aim", 0, -100))
        self.assertEqual(frost_and_warmth(*full), (100, 0))
        self.assertEqual(frost_and_warmth(*full, ("hours", 5)), (100, 0))

    def test_frost_of_99_cools_yet(self):
        # Four hours of cooling against a leak: 4 frost; nineteen of the open door: 99.
        almost = (("begin", 1, 50), ("chamber", 0, 200, 10), ("hours", 4), ("outside", 0), ("open", 0), ("hours", 19))
        self.assertEqual(frost_and_warmth(*almost), (99, 0))
        self.assertEqual(frost_and_warmth(*almost, ("close", 0), ("aim", 0, -100), ("hours", 1)), (100, -2))

    def test_one_with_frost_of_100_takes_its_turn_all_the_same(self):
        calls = (("begin", 1, 0), ("chamber", 0, 200, 10), ("chamber", 0, 200, 10), ("open", 0), ("hours", 20))
        later = (("close", 0), ("aim", 0, -100), ("aim", 1, -100), ("hours", 1))
        self.assertEqual(warmths(2, *calls, *later), [0, 0])
        self.assertEqual(frosts(2, *calls, *later), [100, 0])


class Thawing(unittest.TestCase):
    # 50 frost, nothing leaks while outside is as warm.
    FROSTED = (("begin", 1, 0), ("chamber", 0, 50, 10), ("open", 0), ("hours", 10), ("close", 0))

    def test_20_less_frost_and_5_warmer_an_hour(self):
        self.assertEqual(frost_and_warmth(*self.FROSTED), (50, 0))
        calls = self.FROSTED + (("thaw", 0, 2), ("hours", 1), ("look", 0))
        self.assertEqual(last(*calls), [30, 5, 0, 50, 0, 1, 10, 10])

    def test_0_frost_at_least(self):
        # From 5 the drift is -1: 0, 5, 9, 13.
        calls = self.FROSTED + (("thaw", 0, 3), ("hours", 3), ("look", 0))
        self.assertEqual(last(*calls), [0, 13, 0, 50, 0, 0, 10, 10])

    def test_it_cools_again_afterwards(self):
        calls = self.FROSTED + (("thaw", 0, 1), ("hours", 2), ("look", 0))
        self.assertEqual(last(*calls), [31, 0, 0, 50, 0, 0, 10, 10])

    def test_no_cooling_while_it_is_thawed(self):
        calls = (("begin", 1, 200), ("chamber", -300, 200, 10), ("thaw", 0, 10), ("hours", 1), ("look", 0))
        self.assertEqual(last(*calls), [0, -285, -300, 200, 0, 9, 10, 10])

    def test_thawed_while_its_door_is_open(self):
        # The door brings no frost while it's thawed, but lets the warmth in.
        calls = self.FROSTED + (("outside", 100), ("open", 0), ("thaw", 0, 2), ("hours", 1), ("look", 0))
        self.assertEqual(last(*calls), [30, 27, 0, 50, 1, 1, 10, 10])
        # 27 + 16 + 5
        self.assertEqual(last(*calls, ("hours", 1), ("look", 0)), [10, 48, 0, 50, 1, 0, 10, 10])
        # Then 11 more, less 45 of 50 with 10 frost; 6 more frost.
        self.assertEqual(last(*calls, ("hours", 2), ("look", 0)), [16, 14, 0, 50, 1, 0, 10, 10])

    def test_it_is_thawed_without_mains_too(self):
        calls = self.FROSTED + (("mains", 0), ("thaw", 0, 1), ("hours", 1), ("look", 0))
        self.assertEqual(last(*calls), [30, 5, 0, 50, 0, 0, 10, 10])

    def test_the_others_are_not(self):
        calls = (("begin", 2, 0), ("chamber", 0, 50, 10), ("chamber", 0, 50, 10), ("open", 0), ("thaw", 1, 2))
        self.assertEqual(warmths(2, *calls, ("hours", 1)), [0, 5])
        self.assertEqual(frosts(2, *calls, ("hours", 1)), [5, 0])


def harm_of(limit, core, chamber, hours, *between):
    """The lot's harm after so many hours: the least that a kind must bear so that it isn't spoiled."""
    low, high = 0, 100000
    while low < high:
        bears = (low + high) // 2
        calls = (*chamber, ("kind", limit, bears, 10000), ("receive", 0, 1, core, 0), *between, ("hours", hours))
        if last(*calls, ("ship", 0, 1)) == [-74]:
            low = bears + 1
        else:
            high = bears
    return low


class Cores(unittest.TestCase):
    def still(self, warmth):
        return (("begin", 1, warmth), ("chamber", warmth, 50, 10))

    def core_after_an_hour(self, core, warmth):
        return harm_of(-500, core, self.still(warmth), 1) - 500

    def test_a_fourth_nearer(self):
        self.assertEqual(self.core_after_an_hour(0, 100), 25)
        self.assertEqual(self.core_after_an_hour(100, 0), 75)

    def test_a_fourth_of_what_is_above_0_rounded_down(self):
        for warmer, nearer in ((1, 0), (3, 0), (4, 1), (7, 1), (8, 2)):
            self.assertEqual(self.core_after_an_hour(10, 10 + warmer), 10 + nearer)

    def test_a_fourth_of_what_is_below_0_further_down(self):
        for colder, nearer in ((1, 1), (3, 1), (4, 1), (5, 2), (8, 2), (9, 3)):
            self.assertEqual(self.core_after_an_hour(10, 10 - colder), 10 - nearer)
            self.assertEqual(self.core_after_an_hour(-10, -10 - colder), -10 - nearer)

    def test_the_core_follows_the_air_as_the_other_steps_left_it(self):
        # 0 drifts to 22 by the door and is 5 warmer for the thaw: 27 // 4.
        chamber = (("begin", 1, 100), ("chamber", 0, 50, 10), ("open", 0), ("thaw", 0, 1))
        self.assertEqual(harm_of(-500, 0, chamber, 1), 506)
        # 2 by drift, none after the cooling.
        chamber = (("begin", 1, 100), ("chamber", 0, 50, 10))
        self.assertEqual(harm_of(-500, -4, chamber, 1), 497)
        self.assertEqual(harm_of(-500, -2, chamber, 1), 498)


class Harm(unittest.TestCase):
    CHAMBER = (("begin", 1, 0), ("chamber", 0, 50, 10))

    def test_what_the_core_is_above_the_limit_hour_by_hour(self):
        # The core goes 40, 30, 22, 16.
        self.assertEqual(harm_of(10, 40, self.CHAMBER, 1), 20)
        self.assertEqual(harm_of(10, 40, self.CHAMBER, 2), 32)
        self.assertEqual(harm_of(10, 40, self.CHAMBER, 3), 38)

    def test_none_at_the_limit_or_below(self):
        self.assertEqual(harm_of(30, 40, self.CHAMBER, 1), 0)
        self.assertEqual(harm_of(29, 40, self.CHAMBER, 1), 1)
        self.assertEqual(harm_of(31, 40, self.CHAMBER, 1), 0)
        self.assertEqual(harm_of(0, -100, self.CHAMBER, 200), 0)

    def test_never_undone(self):
        # 20 + 12 + 6 + 2, then it is below the limit for good.
        self.assertEqual(harm_of(10, 40, self.CHAMBER, 4), 40)
        self.assertEqual(harm_of(10, 40, self.CHAMBER, 5), 40)
        self.assertEqual(harm_of(10, 40, self.CHAMBER, 200), 40)


class Spoiling(unittest.TestCase):
    COLD = (("begin", 1, 0), ("chamber", 0, 50, 10))

    def told(self, kind, core, hours):
        return last(*self.COLD, kind, ("receive", 0, 1, core, 0), *[("hours", n) for n in hours], ("ship", 0, 1))

    def test_as_much_harm_as_it_bears_is_not_spoiled(self):
        self.assertEqual(self.told(("kind", 10, 20, 10000), 40, [1]), [0])
        self.assertEqual(self.told(("kind", 10, 19, 10000), 40, [1]), [-74])
        self.assertEqual(self.told(("kind", 10, 0, 10000), 40, []), [0])

    def test_as_many_hours_as_it_is_good_for_is_not_spoiled(self):
        for life in (1, 2, 200):
            self.assertEqual(self.told(("kind", 10, 0, life), 0, [life]), [0])
            self.assertEqual(self.told(("kind", 10, 0, life), 0, [life, 1]), [-74])

    def test_the_longest_life(self):
        self.assertEqual(self.told(("kind", 10, 0, 10000), 0, [200] * 50), [0])
        self.assertEqual(self.told(("kind", 10, 0, 10000), 0, [200] * 50 + [1]), [-74])

    def test_the_hours_count_from_when_it_came(self):
        calls = (*self.COLD, ("kind", 10, 0, 2), ("hours", 5), ("receive", 0, 1, 0, 0))
        self.assertEqual(last(*calls, ("hours", 2), ("ship", 0, 1)), [0])
        self.assertEqual(last(*calls, ("hours", 3), ("ship", 0, 1)), [-74])
