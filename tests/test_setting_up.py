import unittest

from tests.helper import SIGNED_LEAST, SIGNED_MOST, UNSIGNED_MOST, last, run

BEGIN = ("begin", 2, 200)
CHAMBER = ("chamber", -180, 50, 100)
KIND = ("kind", -150, 100, 1000)
READY = (BEGIN, CHAMBER, KIND)


class Begin(unittest.TestCase):
    def test_every_most_that_may_be(self):
        for most in range(1, 7):
            self.assertEqual(last(("begin", most, 0)), [0])

    def test_most_out_of_range(self):
        for most in (0, 7, UNSIGNED_MOST):
            self.assertEqual(last(("begin", most, 0)), [-22])

    def test_outside_first_and_last(self):
        for outside in (-500, 500):
            self.assertEqual(last(("begin", 1, outside)), [0])

    def test_outside_out_of_range(self):
        for outside in (-501, 501, SIGNED_LEAST, SIGNED_MOST):
            self.assertEqual(last(("begin", 1, outside)), [-22])

    def test_outside_is_as_begun(self):
        self.assertEqual(last(("begin", 1, -77), ("outside", 3)), [0, -77])

    def test_mains_power_and_hour_0(self):
        self.assertEqual(last(BEGIN, ("mains", 1)), [-17])
        self.assertEqual(last(BEGIN, ("hours", 1)), [1])

    def test_a_second_begin_leaves_nothing(self):
        first = [BEGIN, CHAMBER, KIND, ("receive", 0, 5, -180, 0), ("open", 0), ("mains", 0), ("hours", 7)]
        second = [
            ("begin", 1, 100), ("look", 0), ("order", 0, 1), ("throw", 0), ("outside", 100), ("mains", 1),
            CHAMBER, ("look", 0), KIND, ("receive", 0, 5, -180, 0), ("hours", 1), ("look", 0),
        ]
        self.assertEqual(run(first + second)[len(first):], run(second))
        self.assertEqual(run(second)[1:4], [[-2], [-2], [-2]])

    def test_a_refused_second_begin_leaves_all(self):
        for refused in (("begin", 0, 0), ("begin", 7, 0), ("begin", 1, 501)):
            told = run([BEGIN, CHAMBER, ("hours", 3), refused, ("look", 0), ("outside", 0), ("hours", 1)])
            self.assertEqual(told[3:], [[-22], [3, -180, -180, 50, 0, 0, 100, 100], [0, 200], [4]])


class NotBegun(unittest.TestCase):
    CALLS = (
        ("chamber", -180, 50, 10), ("kind", 0, 0, 1), ("receive", 0, 1, 0, 0), ("move", 0, 0), ("ship", 0, 1),
        ("order", 0, 1), ("throw", 0), ("open", 0), ("close", 0), ("aim", 0, 0), ("thaw", 0, 1), ("mains", 0),
        ("outside", 0), ("hours", 1), ("look", 0), ("air", 0), ("lot", 0), ("spoiled",), ("line", 0),
        ("pick", 0, 1), ("soon", 0), ("reach", 0), ("ahead", 1), ("fits", 0, 1), ("warm",), ("cool",),
        ("inside", 0), ("worst",), ("sums",), ("state",),
    )

    def test_every_other_call_answers_not_begun(self):
        for call in self.CALLS:
            self.assertEqual(run([call]), [[-11]], call)

    def test_all_of_them_in_one_list(self):
        self.assertEqual(run(self.CALLS), [[-11]] * 30)

    def test_a_refused_begin_begins_nothing(self):
        for call in self.CALLS:
            self.assertEqual(run([("begin", 0, 0), call, ("begin", 1, 501), call]), [[-22], [-11], [-22], [-11]])

    def test_not_begun_comes_before_any_other_refusal(self):
        for call in (("chamber", 501, 0, 0), ("mains", 2), ("hours", 0), ("outside", 501), ("thaw", 9, 0)):
            self.assertEqual(run([call]), [[-11]], call)

    def test_nothing_stays_of_what_was_not_begun(self):
        told = run([("chamber", -180, 50, 10), ("mains", 0), ("hours", 5), BEGIN, ("look", 0), ("mains", 1), ("hours", 1)])
        self.assertEqual(told, [[-11], [-11], [-11], [0], [-2], [-17], [1]])


class AddChamber(unittest.TestCase):
    def test_numbers_from_0_to_5_and_no_seventh(self):
        told = run([BEGIN] + [CHAMBER] * 8)
        self.assertEqual(told, [[0], [0], [1], [2], [3], [4], [5], [-28], [-28]])

    def test_as_it_is_at_first(self):
        self.assertEqual(last(BEGIN, ("chamber", -180, 50, 10), ("look", 0)), [0, -180, -180, 50, 0, 0, 10, 10])

    def test_first_and_last_allowed(self):
        for aim, power, places in ((-500, 1, 1), (500, 200, 100)):
            told = run([BEGIN, ("chamber", aim, power, places), ("look", 0)])
            self.assertEqual(told[1:], [[0], [0, aim, aim, power, 0, 0, places, places]])

    def test_out_of_range(self):
        wrong = [(aim, 50, 10) for aim in (-501, 501, SIGNED_LEAST, SIGNED_MOST)]
        wrong += [(0, power, 10) for power in (0, 201, UNSIGNED_MOST)]
        wrong += [(0, 50, places) for places in (0, 101, UNSIGNED_MOST)]
        for given in wrong:
            self.assertEqual(run([BEGIN, ("chamber", *given), ("look", 0)])[1:], [[-22], [-2]], given)

    def test_out_of_range_is_told_before_no_room(self):
        full = [BEGIN] + [CHAMBER] * 6
        for given in ((501, 50, 10), (0, 0, 10), (0, 50, 101)):
            self.assertEqual(last(*full, ("chamber", *given)), [-22])


class AddKind(unittest.TestCase):
    def test_numbers_from_0_to_5_and_no_seventh(self):
        told = run([BEGIN] + [KIND] * 8)
        self.assertEqual(told, [[0], [0], [1], [2], [3], [4], [5], [-28], [-28]])

    def test_first_and_last_allowed(self):
        for given in ((-500, 0, 1), (500, 100000, 10000)):
            self.assertEqual(last(BEGIN, ("kind", *given)), [0])

    def test_out_of_range(self):
        wrong = [(limit, 0, 1) for limit in (-501, 501, SIGNED_LEAST, SIGNED_MOST)]
        wrong += [(0, bears, 1) for bears in (100001, UNSIGNED_MOST)]
        wrong += [(0, 0, life) for life in (0, 10001, UNSIGNED_MOST)]
        for given in wrong:
            self.assertEqual(run([BEGIN, ("kind", *given), ("order", 0, 1)])[1:], [[-22], [-2]], given)

    def test_out_of_range_is_told_before_no_room(self):
        full = [BEGIN] + [KIND] * 6
        for given in ((501, 0, 1), (0, 100001, 1), (0, 0, 0)):
            self.assertEqual(last(*full, ("kind", *given)), [-22])


class Receive(unittest.TestCase):
    def test_numbers_in_order(self):
        told = run(READY + (("receive", 0, 5, -100, 0), ("receive", 0, 6, -100, 0), ("look", 0)))
        self.assertEqual(told[3:], [[0], [1], [0, -180, -180, 50, 0, 0, 100, 89]])

    def test_first_and_last_allowed(self):
        for n, core in ((1, -500), (100, 500)):
            self.assertEqual(last(*READY, ("receive", 0, n, core, 0)), [0])

    def test_no_such_kind_or_chamber(self):
        for k, c in ((1, 0), (0, 1), (UNSIGNED_MOST, 0), (0, UNSIGNED_MOST), (1, 1)):
            self.assertEqual(last(*READY, ("receive", k, 1, 0, c)), [-2])

    def test_out_of_range(self):
        for n in (0, 101, UNSIGNED_MOST):
            self.assertEqual(last(*READY, ("receive", 0, n, 0, 0)), [-22])
        for core in (-501, 501, SIGNED_LEAST, SIGNED_MOST):
            self.assertEqual(last(*READY, ("receive", 0, 1, core, 0)), [-22])

    def test_as_many_as_are_free_and_not_one_more(self):
        calls = (BEGIN, ("chamber", 0, 50, 10), KIND, ("receive", 0, 4, 0, 0))
        self.assertEqual(last(*calls, ("receive", 0, 6, 0, 0), ("look", 0))[-1], 0)
        self.assertEqual(run(calls + (("receive", 0, 7, 0, 0), ("look", 0)))[-2:], [[-28], [0, 0, 0, 50, 0, 0, 10, 6]])

    def test_only_the_chamber_meant_is_filled(self):
        told = run([BEGIN, CHAMBER, CHAMBER, KIND, ("receive", 0, 100, 0, 1), ("look", 0), ("look", 1)])
        self.assertEqual([told[-2][-1], told[-1][-1]], [100, 0])

    def test_no_more_than_30_lots(self):
        told = run(READY + (("receive", 0, 1, 0, 0),) * 31)
        self.assertEqual(told[3:], [[number] for number in range(30)] + [[-28]])

    def test_lots_that_are_gone_count_among_the_30(self):
        gone = (("receive", 0, 1, -200, 0), ("ship", 0, 1), ("receive", 0, 1, -200, 0), ("throw", 1))
        told = run(READY + gone + (("receive", 0, 1, 0, 0),) * 29)
        self.assertEqual(told[7:], [[number] for number in range(2, 30)] + [[-28]])

    def test_the_refusal_told_first(self):
        full = READY + (("receive", 0, 100, 0, 0),)
        self.assertEqual(last(*full, ("receive", 1, 0, 501, 0)), [-2])
        self.assertEqual(last(*full, ("receive", 0, 0, 501, 1)), [-2])
        self.assertEqual(last(*full, ("receive", 1, 1, 0, 0)), [-2])
        self.assertEqual(last(*full, ("receive", 0, 101, 0, 0)), [-22])
        self.assertEqual(last(*full, ("receive", 0, 1, 501, 0)), [-22])
        thirty = READY + (("receive", 0, 1, 0, 0),) * 30
        self.assertEqual(last(*thirty, ("receive", 0, 1, 0, 1)), [-2])
        self.assertEqual(last(*thirty, ("receive", 0, 0, 0, 0)), [-22])
