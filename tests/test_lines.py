"""What holds of whole lists of calls, ordinary and wrong ones mixed."""

import contextlib
import io
import random
import unittest

from coldstore.store import answers
from tests.helper import (
    ARGUMENTS, EVERYTHING, LOOKING, NAMES, REFUSALS, any_line, flat, is_refusal, run, told_line,
)

LINES = 300
# What each call may be refused with, once begun.
REFUSED_WITH = {
    "begin": (-22,), "chamber": (-22, -28), "kind": (-22, -28), "receive": (-2, -22, -28), "move": (-2, -17, -28),
    "ship": (-2, -22, -74), "order": (-2, -22, -33), "throw": (-2,), "open": (-2, -17), "close": (-2, -17),
    "aim": (-2, -22), "thaw": (-2, -22, -17), "mains": (-22, -17), "outside": (-22,), "hours": (-22,), "look": (-2,),
    "air": (-2,), "lot": (-2,), "spoiled": (), "line": (-2,), "pick": (-2, -22, -33), "soon": (-2, -33),
    "reach": (-2, -33), "ahead": (-22,), "fits": (-2, -22), "warm": (), "cool": (), "inside": (-2,), "worst": (-6,),
    "sums": (), "state": (),
}
LENGTHS = {"look": 8, "aim": 2, "outside": 2, "air": 2, "lot": 7, "worst": 3, "sums": 6, "state": 7}
NUMBER_FOR_EACH = ("spoiled", "line", "fits", "warm", "cool")
PAIR_FOR_EACH = ("order", "pick")


def answer_length(name, answer, chambers):
    if name in NUMBER_FOR_EACH:
        return 1 + answer[0]
    if name in PAIR_FOR_EACH:
        return 1 + 2 * answer[0]
    if name == "ahead":
        return 2 + chambers
    return LENGTHS.get(name, 1)


def looked_at(calls):
    """The same calls, each followed by a look at every chamber there may be."""
    more = []
    for call in calls[:36]:
        more.append(call)
        more += [("look", c) for c in range(6)]
    return more


def in_two_pieces(calls):
    """The same calls, with the hours that may go by split in two."""
    more = []
    for call in calls:
        if call[0] == "hours" and 2 <= call[1] <= 200:
            more += [("hours", 1), ("hours", call[1] - 1)]
        else:
            more.append(call)
    return more


class AnyLine(unittest.TestCase):
    def test_each_answer_has_its_form(self):
        for seed in range(LINES):
            chambers = 0
            for call, answer in told_line(seed):
                if is_refusal(answer):
                    self.assertEqual(len(answer), 1)
                    self.assertIn(answer[0], REFUSED_WITH[call[0]], call)
                elif call[0] == "inside":
                    self.assertEqual(len(answer) % 2, 1)
                    self.assertEqual(answer[0], sum(answer[2::2]))
                else:
                    self.assertEqual(len(answer), answer_length(call[0], answer, chambers), call)
                if call[0] == "chamber" and not is_refusal(answer):
                    chambers += 1

    def test_every_call_and_every_refusal_comes_up(self):
        pairs = [(call[0], answer[0]) for seed in range(LINES) for call, answer in told_line(seed)]
        self.assertEqual({name for name, first in pairs if first >= 0}, set(NAMES))
        for name, refusals in REFUSED_WITH.items():
            for refusal in refusals:
                if name != "begin":
                    self.assertIn((name, refusal), pairs)

    def test_what_is_refused_changes_nothing(self):
        for seed in range(LINES):
            kept = [(call, answer) for call, answer in told_line(seed) if not is_refusal(answer)]
            self.assertEqual(run([call for call, answer in kept]), [answer for call, answer in kept])

    def test_what_is_refused_and_looking_leave_everything_as_it_was(self):
        for seed in range(LINES):
            told = told_line(seed)
            done = [call for call, answer in told if not is_refusal(answer) and call[0] not in LOOKING]
            everything = run([*any_line(seed), *EVERYTHING])[len(told):]
            self.assertEqual(run([*done, *EVERYTHING])[len(done):], everything)
            # Twice: the looks themselves are looking, too.
            self.assertEqual(run([*done, *EVERYTHING, *EVERYTHING][:256])[len(done) + len(EVERYTHING):],
                             everything[:256 - len(done) - len(EVERYTHING)])

    def test_looking_changes_no_answer(self):
        for seed in range(LINES):
            calls = any_line(seed)[:36]
            self.assertEqual(run(looked_at(calls))[::7], run(calls))

    def test_hours_in_pieces_are_the_same_hours(self):
        for seed in range(LINES):
            told = told_line(seed)[:90]
            others = [answer for call, answer in told if call[0] != "hours"]
            everything = run([call for call, answer in told] + [*EVERYTHING])[len(told):]
            pieces = in_two_pieces([call for call, answer in told]) + [*EVERYTHING]
            in_pieces = [answer for call, answer in zip(pieces, run(pieces)) if call[0] != "hours"]
            self.assertEqual(in_pieces, others + everything)

    def test_a_second_begin_leaves_nothing(self):
        again = [("begin", 2, 33)]
        for seed in range(LINES):
            self.assertEqual(run([*any_line(seed), *again, *EVERYTHING])[-60:], run([*again, *EVERYTHING])[-60:])


class Ledger:
    """Where each pallet is, by the answers alone."""

    def __init__(self):
        self.places = []
        self.lots = []
        self.came = 0
        self.went_out = 0
        self.thrown = 0

    def send_out(self, number, pallets):
        self.lots[number][1] -= pallets
        self.went_out += pallets

    def note(self, call, answer):
        name, given = call[0], call[1:]
        if name == "chamber":
            self.places.append(given[2])
        elif name == "receive":
            self.lots.append([given[3], given[1]])
            self.came += given[1]
        elif name == "move":
            self.lots[given[0]][0] = given[1]
        elif name == "ship":
            self.send_out(*given)
        elif name == "throw":
            self.lots[given[0]][1] -= answer[0]
            self.thrown += answer[0]
        elif name == "order":
            for place in range(1, len(answer), 2):
                self.send_out(answer[place], answer[place + 1])

    def inside(self, chamber):
        there = [(number, pallets) for number, (where, pallets) in enumerate(self.lots) if where == chamber and pallets > 0]
        return [sum(pallets for number, pallets in there)] + [each for pair in there for each in pair]

    def free(self, chamber):
        return self.places[chamber] - self.inside(chamber)[0]

    def sums(self):
        return [0, self.came, self.came - self.went_out - self.thrown, self.went_out, self.thrown]


class WhatHolds(unittest.TestCase):
    def test_every_pallet_is_somewhere(self):
        for seed in range(LINES):
            ledger = Ledger()
            calls = looked_at(any_line(seed))
            for call, answer in zip(calls, run(calls)):
                if is_refusal(answer):
                    continue
                if call[0] == "look":
                    self.assertEqual(answer[7], ledger.free(call[1]))
                    self.assertGreaterEqual(answer[7], 0)
                ledger.note(call, answer)
                self.assertTrue(all(pallets >= 0 for where, pallets in ledger.lots))

    def test_inside_and_sums_tell_where(self):
        for seed in range(LINES):
            ledger = Ledger()
            for call, answer in told_line(seed):
                if is_refusal(answer):
                    continue
                ledger.note(call, answer)
                if call[0] == "inside":
                    self.assertEqual(answer, ledger.inside(call[1]))
                elif call[0] == "sums":
                    self.assertEqual(answer[:5], ledger.sums())
                elif call[0] == "lot":
                    self.assertEqual([answer[2], answer[0]], ledger.lots[call[1]])

    def test_an_order_gets_as_much_as_it_asks_for(self):
        for seed in range(LINES):
            for call, answer in told_line(seed):
                if call[0] == "order" and not is_refusal(answer):
                    self.assertEqual(sum(answer[2::2]), call[2])
                    self.assertTrue(all(pallets > 0 for pallets in answer[2::2]))

    def test_what_goes_out_first_is_oldest(self):
        for seed in range(LINES):
            hour, came = 0, []
            for call, answer in told_line(seed):
                if call[0] == "hours" and not is_refusal(answer):
                    hour = answer[0]
                elif call[0] == "receive" and not is_refusal(answer):
                    came.append(hour)
                elif call[0] == "order" and not is_refusal(answer):
                    hours = [came[number] for number in answer[1::2]]
                    self.assertEqual(hours, sorted(hours))

    def test_nothing_spoiled_goes_out(self):
        for seed in range(LINES):
            hour, lives, lots = 0, [], []
            for call, answer in told_line(seed):
                if is_refusal(answer):
                    continue
                if call[0] == "hours":
                    hour = answer[0]
                elif call[0] == "kind":
                    lives.append(call[3])
                elif call[0] == "receive":
                    lots.append((hour, call[1]))
                gone = {"ship": call[1:2], "order": answer[1::2]}.get(call[0], [])
                for number in gone:
                    self.assertLessEqual(hour - lots[number][0], lives[lots[number][1]])

    def test_what_goes_out_was_not_spoiled_and_stood_first_in_its_line(self):
        for seed in range(LINES):
            told = told_line(seed)
            orders = [place for place, (call, answer) in enumerate(told) if call[0] == "order" and not is_refusal(answer)]
            for place in orders[:4]:
                call, answer = told[place]
                numbers = answer[1::2]
                looks = [("line", call[1]), ("pick", *call[1:])] + [("lot", number) for number in numbers]
                line, pick, *lots = run(any_line(seed)[:place] + tuple(looks))[place:]
                self.assertEqual(line[1:1 + len(numbers)], numbers)
                self.assertEqual(pick, answer)
                self.assertEqual([lot[6] for lot in lots], [0] * len(lots))
                self.assertEqual([lot[0] for lot in lots][:-1], answer[2:-2:2])

    def test_harm_is_never_undone_and_cold_in_the_cold_it_takes_none(self):
        for seed in range(LINES):
            calls = any_line(seed)[:60]
            for lot in (0, 1):
                steps = [("hours", 1), ("lot", lot)] * 20
                told = [answer for answer in run([*calls, ("lot", lot), *steps])[len(calls):] if len(answer) == 7]
                for before, after in zip(told, told[1:]):
                    limit = [call[1] for call, answer in told_line(seed) if call[0] == "kind" and answer == [before[1]]][0]
                    more = max(0, after[3] - limit) if before[0] > 0 else 0
                    self.assertEqual(after[4] - before[4], more)

    def test_no_more_cool_than_can_none_below_its_aim_none_without_mains(self):
        for seed in range(LINES):
            source = random.Random(seed)
            most, power, mains = source.randint(1, 6), source.randint(1, 200), source.randint(0, 1)
            calls = [("begin", most, 500)] + [("chamber", source.randint(-300, 0), power, 10) for each in range(6)]
            calls += [("mains", 0)] * (1 - mains) + [("hours", source.randint(1, 20))]
            looks = [("look", c) for c in range(6)]
            told = run(calls + looks + [("hours", 1)] + looks)
            before, after = told[-13:-7], told[-6:]
            cooled = [c for c in range(6) if after[c][0] > before[c][0]]
            self.assertEqual(cooled, list(range(most if mains else 0)))
            for c in range(6):
                self.assertGreaterEqual(after[c][1], after[c][2])
                if c not in cooled:
                    self.assertEqual(after[c][1], before[c][1] + (500 - before[c][1]) * 20 // 1000)


class Interface(unittest.TestCase):
    def test_counts_stand_before_the_answers(self):
        calls = [0, 1, 0, 1, -180, 50, 10, 1, 0, 0, 0, 10, 0, -90, 15, 0, 15, 1]
        self.assertEqual(
            answers(calls), [1, 0, 1, 0, 1, -22, 2, 0, -180, 8, 0, -180, -90, 50, 0, 0, 10, 10, 1, -2]
        )

    def test_every_call_by_its_number(self):
        calls = [
            0, 2, 0, 1, 0, 50, 10, 1, 0, 60, 20, 2, 0, 0, 100, 3, 0, 5, 0, 0, 4, 0, 1, 5, 0, 1, 6, 0, 2, 7, 0,
            8, 0, 9, 0, 10, 0, 5, 11, 0, 3, 12, 0, 13, 7, 14, 9, 15, 1,
        ]
        told = [
            1, 0, 1, 0, 1, 1, 1, 0, 1, 0, 1, 0, 1, 4, 3, 1, 0, 2, 1, 2,
            1, 0, 1, 0, 2, 0, 0, 1, 0, 1, 0, 2, 0, 0, 1, 9, 8, 0, 0, 0, 60, 0, 0, 20, 20,
        ]
        self.assertEqual(answers(calls), told)

    def test_every_looking_call_by_its_number(self):
        # Lot 0 has 5 pallets of kind 0 in chamber 0, which drifts by 2 and cools by 2 in the hour.
        calls = [0, 2, 100, 1, 0, 50, 10, 1, 100, 60, 20, 2, 0, 7, 90, 3, 0, 5, 8, 0, 14, 1]
        told = [1, 0, 1, 0, 1, 1, 1, 0, 1, 0, 1, 1]
        each = [
            (16, 0, [49, 2]), (17, 0, [5, 0, 0, 6, 6, 1, 0]), (18, [0]), (19, 0, [1, 0]), (20, 0, 3, [1, 0, 3]),
            (21, 0, [1]), (22, 1, [0]), (23, 1, [1, 2, 0, 100]), (24, 0, 5, [1, 0]), (25, [0]), (26, [1, 0]),
            (27, 0, [5, 0, 5]), (28, [0, 6, 7]), (29, [0, 5, 5, 0, 0, 2]), (30, [0, 1, 1, 2, 1, 1, 100]),
        ]
        for *call, answer in each:
            calls += call
            told += [len(answer)] + answer
        self.assertEqual(answers(calls), told)

    def test_the_counts_of_arguments_are_right_for_every_call(self):
        # A begin behind each call shows that the next call begins where it should.
        for number, name in enumerate(NAMES):
            told = answers([0, 1, 0, number] + [1] * ARGUMENTS[name] + [0, 0, 0])
            self.assertEqual((told[:2], told[-2:]), ([1, 0], [1, -22]), name)
            self.assertEqual(len(told), 5 + told[2], name)

    def test_it_is_a_list_of_whole_numbers(self):
        for seed in range(LINES):
            told = answers(flat(any_line(seed)))
            self.assertIs(type(told), list)
            self.assertEqual({type(number) for number in told}, {int})

    def test_what_is_handed_in_is_not_changed(self):
        for seed in range(LINES):
            handed = flat(any_line(seed))
            copy = list(handed)
            told = answers(handed)
            self.assertEqual(handed, copy)
            self.assertIsNot(told, handed)

    def test_what_is_handed_in_is_not_changed_for_a_while_either(self):
        def refuse(*given):
            raise AssertionError("what was handed in was to be changed")

        changing = (
            "append", "clear", "extend", "insert", "pop", "remove", "reverse", "sort",
            "__setitem__", "__delitem__", "__iadd__", "__imul__",
        )
        guarded = type("Guarded", (list,), {name: refuse for name in changing})
        for seed in range(20):
            handed = flat(any_line(seed))
            self.assertEqual(answers(guarded(handed)), answers(handed))

    def test_a_second_time_answers_as_the_first(self):
        lines = [flat(any_line(seed)) for seed in range(LINES)]
        first = [answers(line) for line in lines]
        second = [answers(line) for line in reversed(lines)]
        self.assertEqual(first, second[::-1])

    def test_nothing_of_one_list_is_there_in_the_next(self):
        answers([0, 1, 0, 1, 0, 50, 10])
        self.assertEqual(answers([15, 0]), [1, -11])

    def test_what_is_given_back_is_not_kept(self):
        told = answers([0, 1, 0])
        told.append(99)
        self.assertEqual(answers([0, 1, 0]), [1, 0])

    def test_nothing_is_printed(self):
        out, err = io.StringIO(), io.StringIO()
        with contextlib.redirect_stdout(out), contextlib.redirect_stderr(err):
            for seed in range(20):
                answers(flat(any_line(seed)))
        self.assertEqual((out.getvalue(), err.getvalue()), ("", ""))

    def test_only_refusals_that_are_told(self):
        for seed in range(LINES):
            for call, answer in told_line(seed):
                if is_refusal(answer):
                    self.assertIn(answer[0], REFUSALS)


class Longest(unittest.TestCase):
    """256 calls on 6 chambers and 30 lots, as many of them as can be of one kind, each as long as it can be."""

    FULL = (
        ("begin", 6, 0), *[("chamber", 0, 200, 100)] * 6, ("kind", 0, 100000, 10000),
        *[("receive", 0, 20, 0, number % 6) for number in range(30)],
    )

    def told(self, call, *before):
        calls = [*self.FULL, *before]
        calls += [call] * (256 - len(calls))
        return run(calls)[len(self.FULL) + len(before):]

    def test_hours(self):
        self.assertEqual(self.told(("hours", 200)), [[200 * times] for times in range(1, 219)])

    def test_soon(self):
        self.assertEqual(self.told(("soon", 29)), [[-33]] * 218)
        # Good for 10,000 hours; 9,600 have gone by.
        self.assertEqual(self.told(("soon", 29), *[("hours", 200)] * 48), [[-33]] * 170)
        self.assertEqual(self.told(("soon", 29), *[("hours", 200)] * 48, ("hours", 1)), [[400]] * 169)

    def test_reach(self):
        before = (("aim", 5, -1), ("mains", 0))
        self.assertEqual(self.told(("reach", 5), *before), [[-33]] * 216)

    def test_ahead(self):
        self.assertEqual(self.told(("ahead", 200)), [[0, 0] + [0] * 6] * 218)

    def test_pick_line_and_inside(self):
        all_of_it = [30] + [each for number in range(30) for each in (number, 20)]
        self.assertEqual(self.told(("pick", 0, 600)), [all_of_it] * 218)
        self.assertEqual(self.told(("line", 0)), [[30, *range(30)]] * 218)
        self.assertEqual(self.told(("inside", 5)), [[100, 5, 20, 11, 20, 17, 20, 23, 20, 29, 20]] * 218)

    def test_the_long_ones_by_turns(self):
        long_ones = [("hours", 200), ("soon", 29), ("reach", 5), ("ahead", 200)]
        calls = [*self.FULL, ("aim", 5, -1), ("mains", 0)] + long_ones * 54
        self.assertEqual(len(calls), 256)
        told = run(calls)[40:]
        self.assertEqual(told[0::4], [[200 * times] for times in range(1, 55)])
        # It is good for 10,000 hours, and spoiled in the hour behind these.
        soon = [10001 - 200 * times for times in range(1, 55)]
        self.assertEqual(told[1::4], [[max(0, hours)] if hours <= 400 else [-33] for hours in soon])
        self.assertEqual(told[2::4], [[-33]] * 54)
        self.assertEqual(told[3::4], [[30 if hours <= 200 else 0] + [0] * 7 for hours in soon])
