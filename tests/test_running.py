import unittest

from tests.helper import SIGNED_LEAST, SIGNED_MOST, UNSIGNED_MOST, last, run

READY = (("begin", 2, 200), ("chamber", -180, 50, 10), ("chamber", -100, 30, 20))


class Doors(unittest.TestCase):
    def test_open_and_close(self):
        told = run(READY + (("open", 1), ("look", 1), ("look", 0), ("close", 1), ("look", 1)))
        self.assertEqual([told[3], told[6]], [[0], [0]])
        self.assertEqual([told[4][4], told[5][4], told[7][4]], [1, 0, 0])

    def test_already_so(self):
        self.assertEqual(last(*READY, ("close", 0)), [-17])
        self.assertEqual(last(*READY, ("open", 0), ("open", 0)), [-17])
        self.assertEqual(last(*READY, ("open", 0), ("close", 0), ("close", 0)), [-17])
        self.assertEqual(last(*READY, ("open", 0), ("open", 1)), [0])

    def test_no_such_chamber(self):
        for name in ("open", "close"):
            for c in (2, UNSIGNED_MOST):
                self.assertEqual(last(*READY, (name, c)), [-2])


class Aim(unittest.TestCase):
    def test_answers_what_it_was(self):
        told = run(READY + (("aim", 1, -250), ("aim", 1, -20), ("look", 1)))
        self.assertEqual(told[3:], [[0, -100], [0, -250], [0, -100, -20, 30, 0, 0, 20, 20]])

    def test_first_and_last_allowed(self):
        for t in (-500, 500):
            self.assertEqual(last(*READY, ("aim", 0, t)), [0, -180])

    def test_out_of_range(self):
        for t in (-501, 501, SIGNED_LEAST, SIGNED_MOST):
            self.assertEqual(run(READY + (("aim", 0, t), ("look", 0)))[-2:], [[-22], [0, -180, -180, 50, 0, 0, 10, 10]])

    def test_no_such_chamber_is_told_first(self):
        for c in (2, UNSIGNED_MOST):
            self.assertEqual(last(*READY, ("aim", c, 0)), [-2])
            self.assertEqual(last(*READY, ("aim", c, 501)), [-2])


class Thaw(unittest.TestCase):
    def test_answers_the_frost_there_is(self):
        self.assertEqual(last(*READY, ("thaw", 0, 1)), [0])
        self.assertEqual(run(READY + (("hours", 4), ("thaw", 0, 3), ("look", 0)))[-2:], [[4], [4, -180, -180, 50, 0, 3, 10, 10]])

    def test_first_and_last_allowed(self):
        for n in (1, 10):
            self.assertEqual(last(*READY, ("thaw", 0, n), ("look", 0))[5], n)

    def test_out_of_range(self):
        for n in (0, 11, UNSIGNED_MOST):
            self.assertEqual(last(*READY, ("thaw", 0, n)), [-22])

    def test_already_thawed_up_to_its_last_hour(self):
        calls = READY + (("thaw", 0, 2),)
        self.assertEqual(last(*calls, ("thaw", 0, 1)), [-17])
        self.assertEqual(last(*calls, ("hours", 1), ("thaw", 0, 1)), [-17])
        self.assertEqual(last(*calls, ("hours", 2), ("thaw", 0, 1)), [0])
        self.assertEqual(last(*calls, ("thaw", 1, 1)), [0])

    def test_the_refusal_told_first(self):
        self.assertEqual(last(*READY, ("thaw", 2, 1)), [-2])
        self.assertEqual(last(*READY, ("thaw", 2, 0)), [-2])
        self.assertEqual(last(*READY, ("thaw", UNSIGNED_MOST, 11)), [-2])
        self.assertEqual(last(*READY, ("thaw", 0, 1), ("thaw", 0, 11)), [-22])
        self.assertEqual(last(*READY, ("thaw", 0, 1), ("thaw", 0, 0)), [-22])


class Mains(unittest.TestCase):
    def test_off_and_on(self):
        told = run(READY + (("mains", 1), ("mains", 0), ("mains", 0), ("mains", 1), ("mains", 1)))
        self.assertEqual(told[3:], [[-17], [0], [-17], [0], [-17]])

    def test_out_of_range(self):
        for b in (2, UNSIGNED_MOST):
            self.assertEqual(last(*READY, ("mains", b)), [-22])


class Outside(unittest.TestCase):
    def test_answers_how_warm_it_was(self):
        told = run(READY + (("outside", -30), ("outside", -30), ("outside", 7)))
        self.assertEqual(told[3:], [[0, 200], [0, -30], [0, -30]])

    def test_first_and_last_allowed(self):
        for t in (-500, 500):
            self.assertEqual(run(READY + (("outside", t), ("outside", 0)))[-2:], [[0, 200], [0, t]])

    def test_out_of_range(self):
        for t in (-501, 501, SIGNED_LEAST, SIGNED_MOST):
            self.assertEqual(run(READY + (("outside", t), ("outside", 0)))[-2:], [[-22], [0, 200]])


class Hours(unittest.TestCase):
    def test_which_hour_it_is(self):
        self.assertEqual(run(READY + (("hours", 1), ("hours", 200), ("hours", 3)))[3:], [[1], [201], [204]])

    def test_out_of_range(self):
        for n in (0, 201, UNSIGNED_MOST):
            self.assertEqual(run(READY + (("hours", n), ("hours", 1)))[-2:], [[-22], [1]])

    def test_hours_go_by_without_a_chamber(self):
        self.assertEqual(last(("begin", 1, 0), ("hours", 5)), [5])


class Look(unittest.TestCase):
    def test_all_it_tells(self):
        calls = READY + (
            ("kind", 0, 0, 10), ("receive", 0, 6, 0, 1), ("receive", 0, 1, 0, 1), ("open", 1), ("aim", 1, -90),
            ("thaw", 1, 4), ("look", 1),
        )
        self.assertEqual(last(*calls), [0, -100, -90, 30, 1, 4, 20, 13])

    def test_no_such_chamber(self):
        for c in (2, UNSIGNED_MOST):
            self.assertEqual(last(*READY, ("look", c)), [-2])

    def test_looking_changes_nothing(self):
        calls = READY + (("hours", 3), ("look", 0), ("look", 0), ("hours", 3), ("look", 0))
        told = run(calls)
        self.assertEqual(told[4], told[5])
        self.assertEqual(told[7], last(*READY, ("hours", 6), ("look", 0)))
