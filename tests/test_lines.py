"""What holds of whole lists of calls, ordinary and wrong ones mixed."""

import contextlib
import io
import random
import unittest

from coldstore.store import answers
from tests.helper import REFUSALS, SIGNED_LEAST, SIGNED_MOST, UNSIGNED_MOST, flat, is_refusal, run

LINES = 300
# What each call may be refused with, once begun.
REFUSED_WITH = {
    "begin": (-22,), "chamber": (-22, -28), "kind": (-22, -28), "receive": (-2, -22, -28), "move": (-2, -17, -28),
    "ship": (-2, -22, -74), "order": (-2, -22, -33), "throw": (-2,), "open": (-2, -17), "close": (-2, -17),
    "aim": (-2, -22), "thaw": (-2, -22, -17), "mains": (-22, -17), "outside": (-22,), "hours": (-22,), "look": (-2,),
}
LENGTHS = {"look": 8, "aim": 2, "outside": 2}


def any_warmth(source):
    return source.choice([source.randint(-500, 500)] * 8 + [-501, 501, SIGNED_LEAST, SIGNED_MOST])


def any_count(source, most):
    return source.choice([source.randint(1, most)] * 8 + [0, most + 1, UNSIGNED_MOST])


def any_place(source, most):
    return source.choice([source.randrange(most)] * 8 + [UNSIGNED_MOST])


def any_call(source):
    name = source.choice(
        ["chamber", "kind", "receive", "receive", "receive", "move", "move", "ship", "ship", "order", "order", "throw"]
        + ["open", "close", "aim", "thaw", "mains", "outside", "hours", "hours", "hours", "look", "look"]
    )
    chamber, kind, lot = any_place(source, 4), any_place(source, 3), any_place(source, 12)
    given = {
        "chamber": (any_warmth(source), any_count(source, 200), any_count(source, 100)),
        "kind": (any_warmth(source), source.randint(0, 3000), any_count(source, 60)),
        "receive": (kind, any_count(source, 30), any_warmth(source), chamber),
        "move": (lot, chamber), "ship": (lot, any_count(source, 10)), "order": (kind, any_count(source, 40)),
        "throw": (lot,), "open": (chamber,), "close": (chamber,), "aim": (chamber, any_warmth(source)),
        "thaw": (chamber, any_count(source, 10)), "mains": (source.choice((0, 1, 1, 2)),),
        "outside": (any_warmth(source),), "hours": (any_count(source, 20),), "look": (chamber,),
    }
    return (name, *given[name])


def any_line(seed):
    source = random.Random(seed)
    calls = [("begin", source.randint(1, 3), source.randint(-500, 500))]
    calls += [("chamber", source.randint(-300, 100), source.randint(1, 200), source.randint(20, 100)) for each in range(3)]
    calls += [("kind", source.randint(-200, 200), source.randint(0, 3000), source.randint(1, 60)) for each in range(2)]
    return calls + [any_call(source) for each in range(source.randint(20, 200))]


def looked_at(calls):
    """The same calls, each followed by a look at every chamber there may be."""
    more = []
    for call in calls[:36]:
        more.append(call)
        more += [("look", c) for c in range(6)]
    return more


def in_two_pieces(calls):
    """The same calls, with the hours that may go by split in two."""
    more = []
    for call in calls:
        if call[0] == "hours" and 2 <= call[1] <= 200:
            more += [("hours", 1), ("hours", call[1] - 1)]
        else:
            more.append(call)
    return more


class AnyLine(unittest.TestCase):
    def test_each_answer_has_its_form(self):
        for seed in range(LINES):
            calls = any_line(seed)
            for call, answer in zip(calls, run(calls)):
                if is_refusal(answer):
                    self.assertEqual(len(answer), 1)
                    self.assertIn(answer[0], REFUSED_WITH[call[0]], call)
                elif call[0] == "order":
                    self.assertEqual(len(answer), 1 + 2 * answer[0])
                else:
                    self.assertEqual(len(answer), LENGTHS.get(call[0], 1), call)

    def test_every_refusal_comes_up(self):
        met = {(call[0], answer[0]) for seed in range(LINES) for call, answer in zip(any_line(seed), run(any_line(seed)))}
        for name, refusals in REFUSED_WITH.items():
            for refusal in refusals:
                if name != "begin":
                    self.assertIn((name, refusal), met)

    def test_what_is_refused_changes_nothing(self):
        for seed in range(LINES):
            calls = any_line(seed)
            kept = [(call, answer) for call, answer in zip(calls, run(calls)) if not is_refusal(answer)]
            self.assertEqual(run([call for call, answer in kept]), [answer for call, answer in kept])

    def test_looking_changes_nothing(self):
        for seed in range(LINES):
            calls = any_line(seed)[:36]
            self.assertEqual(run(looked_at(calls))[::7], run(calls))

    def test_hours_in_pieces_are_the_same_hours(self):
        for seed in range(LINES):
            calls = any_line(seed)[:120]
            told = [answer for call, answer in zip(calls, run(calls)) if call[0] != "hours"]
            pieces = in_two_pieces(calls)
            in_pieces = [answer for call, answer in zip(pieces, run(pieces)) if call[0] != "hours"]
            self.assertEqual(in_pieces, told)


class Ledger:
    """Where each pallet is, by the answers alone."""

    def __init__(self):
        self.places = []
        self.lots = []

    def take(self, number, pallets):
        self.lots[number][1] -= pallets

    def note(self, call, answer):
        name, given = call[0], call[1:]
        if name == "chamber":
            self.places.append(given[2])
        elif name == "receive":
            self.lots.append([given[3], given[1]])
        elif name == "move":
            self.lots[given[0]][0] = given[1]
        elif name == "ship":
            self.take(*given)
        elif name == "throw":
            self.take(given[0], answer[0])
        elif name == "order":
            for place in range(1, len(answer), 2):
                self.take(answer[place], answer[place + 1])

    def free(self, chamber):
        return self.places[chamber] - sum(pallets for where, pallets in self.lots if where == chamber)


class WhatHolds(unittest.TestCase):
    def test_every_pallet_is_somewhere(self):
        for seed in range(LINES):
            ledger = Ledger()
            calls = looked_at(any_line(seed))
            for call, answer in zip(calls, run(calls)):
                if is_refusal(answer):
                    continue
                if call[0] == "look":
                    self.assertEqual(answer[7], ledger.free(call[1]))
                    self.assertGreaterEqual(answer[7], 0)
                ledger.note(call, answer)
                self.assertTrue(all(pallets >= 0 for where, pallets in ledger.lots))

    def test_an_order_gets_as_much_as_it_asks_for(self):
        for seed in range(LINES):
            calls = any_line(seed)
            for call, answer in zip(calls, run(calls)):
                if call[0] == "order" and not is_refusal(answer):
                    self.assertEqual(sum(answer[2::2]), call[2])
                    self.assertTrue(all(pallets > 0 for pallets in answer[2::2]))

    def test_what_goes_out_first_is_oldest(self):
        for seed in range(LINES):
            calls = any_line(seed)
            hour, came = 0, []
            for call, answer in zip(calls, run(calls)):
                if call[0] == "hours" and not is_refusal(answer):
                    hour = answer[0]
                elif call[0] == "receive" and not is_refusal(answer):
                    came.append(hour)
                elif call[0] == "order" and not is_refusal(answer):
                    hours = [came[number] for number in answer[1::2]]
                    self.assertEqual(hours, sorted(hours))

    def test_nothing_spoiled_goes_out(self):
        for seed in range(LINES):
            calls = any_line(seed)
            hour, lives, lots = 0, [], []
            for call, answer in zip(calls, run(calls)):
                if is_refusal(answer):
                    continue
                if call[0] == "hours":
                    hour = answer[0]
                elif call[0] == "kind":
                    lives.append(call[3])
                elif call[0] == "receive":
                    lots.append((hour, call[1]))
                gone = {"ship": call[1:2], "order": answer[1::2]}.get(call[0], [])
                for number in gone:
                    self.assertLessEqual(hour - lots[number][0], lives[lots[number][1]])

    def test_no_more_cool_than_can_none_below_its_aim_none_without_mains(self):
        for seed in range(LINES):
            source = random.Random(seed)
            most, power, mains = source.randint(1, 6), source.randint(1, 200), source.randint(0, 1)
            calls = [("begin", most, 500)] + [("chamber", source.randint(-300, 0), power, 10) for each in range(6)]
            calls += [("mains", 0)] * (1 - mains) + [("hours", source.randint(1, 20))]
            looks = [("look", c) for c in range(6)]
            told = run(calls + looks + [("hours", 1)] + looks)
            before, after = told[-13:-7], told[-6:]
            cooled = [c for c in range(6) if after[c][0] > before[c][0]]
            self.assertEqual(cooled, list(range(most if mains else 0)))
            for c in range(6):
                self.assertGreaterEqual(after[c][1], after[c][2])
                if c not in cooled:
                    self.assertEqual(after[c][1], before[c][1] + (500 - before[c][1]) * 20 // 1000)


class Interface(unittest.TestCase):
    def test_counts_stand_before_the_answers(self):
        calls = [0, 1, 0, 1, -180, 50, 10, 1, 0, 0, 0, 10, 0, -90, 15, 0, 15, 1]
        self.assertEqual(
            answers(calls), [1, 0, 1, 0, 1, -22, 2, 0, -180, 8, 0, -180, -90, 50, 0, 0, 10, 10, 1, -2]
        )

    def test_every_call_by_its_number(self):
        calls = [
            0, 2, 0, 1, 0, 50, 10, 1, 0, 60, 20, 2, 0, 0, 100, 3, 0, 5, 0, 0, 4, 0, 1, 5, 0, 1, 6, 0, 2, 7, 0,
            8, 0, 9, 0, 10, 0, 5, 11, 0, 3, 12, 0, 13, 7, 14, 9, 15, 1,
        ]
        told = [
            1, 0, 1, 0, 1, 1, 1, 0, 1, 0, 1, 0, 1, 4, 3, 1, 0, 2, 1, 2,
            1, 0, 1, 0, 2, 0, 0, 1, 0, 1, 0, 2, 0, 0, 1, 9, 8, 0, 0, 0, 60, 0, 0, 20, 20,
        ]
        self.assertEqual(answers(calls), told)

    def test_it_is_a_list_of_whole_numbers(self):
        for seed in range(LINES):
            told = answers(flat(any_line(seed)))
            self.assertIs(type(told), list)
            self.assertEqual({type(number) for number in told}, {int})

    def test_what_is_handed_in_is_not_changed(self):
        for seed in range(LINES):
            handed = flat(any_line(seed))
            copy = list(handed)
            told = answers(handed)
            self.assertEqual(handed, copy)
            self.assertIsNot(told, handed)

    def test_a_second_time_answers_as_the_first(self):
        lines = [flat(any_line(seed)) for seed in range(LINES)]
        first = [answers(line) for line in lines]
        second = [answers(line) for line in reversed(lines)]
        self.assertEqual(first, second[::-1])

    def test_nothing_of_one_list_is_there_in_the_next(self):
        answers([0, 1, 0, 1, 0, 50, 10])
        self.assertEqual(answers([15, 0]), [1, -11])

    def test_what_is_given_back_is_not_kept(self):
        told = answers([0, 1, 0])
        told.append(99)
        self.assertEqual(answers([0, 1, 0]), [1, 0])

    def test_256_calls_of_the_longest_hours(self):
        calls = [("begin", 6, 500)] + [("chamber", -300, 200, 100)] * 6 + [("kind", 0, 100000, 10000)]
        calls += [("receive", 0, 1, 0, 0)] * 30 + [("hours", 200)] * 218
        self.assertEqual(run(calls)[-1], [43600])

    def test_nothing_is_printed(self):
        out, err = io.StringIO(), io.StringIO()
        with contextlib.redirect_stdout(out), contextlib.redirect_stderr(err):
            for seed in range(20):
                answers(flat(any_line(seed)))
        self.assertEqual((out.getvalue(), err.getvalue()), ("", ""))

    def test_only_refusals_that_are_told(self):
        for seed in range(LINES):
            for answer in run(any_line(seed)):
                if is_refusal(answer):
                    self.assertIn(answer[0], REFUSALS)
