"""Calls by their names, the answers call by call, and lists of calls of all sorts."""

import functools
import random

from coldstore.store import answers

NAMES = (
    "begin", "chamber", "kind", "receive", "move", "ship", "order", "throw",
    "open", "close", "aim", "thaw", "mains", "outside", "hours", "look",
    "air", "lot", "spoiled", "line", "pick", "soon", "reach", "ahead",
    "fits", "warm", "cool", "inside", "worst", "sums", "state",
)
LOOKING = NAMES[NAMES.index("look"):]
ARGUMENTS = {
    "begin": 2, "chamber": 3, "kind": 3, "receive": 4, "move": 2, "ship": 2, "order": 2, "throw": 1,
    "open": 1, "close": 1, "aim": 2, "thaw": 2, "mains": 1, "outside": 1, "hours": 1, "look": 1,
    "air": 1, "lot": 1, "spoiled": 0, "line": 1, "pick": 2, "soon": 1, "reach": 1, "ahead": 1,
    "fits": 2, "warm": 0, "cool": 0, "inside": 1, "worst": 0, "sums": 0, "state": 0,
}
UNSIGNED_MOST = 4294967295
SIGNED_LEAST = -2147483648
SIGNED_MOST = 2147483647
REFUSALS = (-2, -6, -11, -17, -22, -28, -33, -74)

# Calls whose answers, together, tell all that a store holds.
EVERYTHING = (
    *[(name, c) for c in range(6) for name in ("look", "air", "inside")],
    *[("lot", l) for l in range(30)],
    *[("line", k) for k in range(6)],
    ("spoiled",), ("warm",), ("cool",), ("worst",), ("sums",), ("state",),
)


def flat(calls):
    numbers = []
    for name, *given in calls:
        assert len(given) == ARGUMENTS[name], name
        numbers.append(NAMES.index(name))
        numbers.extend(given)
    return numbers


def split(told):
    """The answers one by one; fails where the counts don't fit what stands behind them."""
    each = []
    place = 0
    while place < len(told):
        behind = place + 1 + told[place]
        assert behind <= len(told), told
        each.append(told[place + 1:behind])
        place = behind
    return each


def run(calls):
    handed = flat(calls)
    assert 1 <= len(calls) <= 256 and len(handed) <= 1300, (len(calls), len(handed))
    each = split(answers(handed))
    assert len(each) == len(calls), each
    return each


def last(*calls):
    return run(calls)[-1]


def is_refusal(answer):
    return answer[0] < 0


def hours_in_pieces(total, piece):
    """Calls that let so many hours go by, at most a piece at once."""
    return [("hours", min(piece, total - gone)) for gone in range(0, total, piece)]


def any_warmth(source):
    return source.choice([source.randint(-500, 500)] * 8 + [-501, 501, SIGNED_LEAST, SIGNED_MOST])


def any_count(source, most):
    return source.choice([source.randint(1, most)] * 8 + [0, most + 1, UNSIGNED_MOST])


def any_place(source, most):
    return source.choice([source.randrange(most)] * 8 + [UNSIGNED_MOST])


def any_call(source):
    name = source.choice(
        ["chamber", "kind", "receive", "receive", "receive", "move", "move", "ship", "ship", "order", "order", "throw"]
        + ["open", "close", "aim", "thaw", "mains", "outside", "hours", "hours", "hours"]
        + [source.choice(LOOKING) for each in range(6)]
    )
    chamber, kind, lot = any_place(source, 4), any_place(source, 3), any_place(source, 12)
    given = {
        "chamber": (any_warmth(source), any_count(source, 200), any_count(source, 100)),
        "kind": (any_warmth(source), source.randint(0, 3000), any_count(source, 60)),
        "receive": (kind, any_count(source, 30), any_warmth(source), chamber),
        "move": (lot, chamber), "ship": (lot, any_count(source, 10)), "order": (kind, any_count(source, 40)),
        "throw": (lot,), "open": (chamber,), "close": (chamber,), "aim": (chamber, any_warmth(source)),
        "thaw": (chamber, any_count(source, 10)), "mains": (source.choice((0, 1, 1, 2)),),
        "outside": (any_warmth(source),), "hours": (any_count(source, 20),), "look": (chamber,), "air": (chamber,),
        "lot": (lot,), "spoiled": (), "line": (kind,), "pick": (kind, any_count(source, 40)), "soon": (lot,),
        "reach": (chamber,), "ahead": (any_count(source, 200),), "fits": (kind, any_count(source, 100)), "warm": (),
        "cool": (), "inside": (chamber,), "worst": (), "sums": (), "state": (),
    }
    return (name, *given[name])


@functools.lru_cache(maxsize=None)
def any_line(seed):
    """A begun store with three chambers and two kinds, then calls of all sorts, right and wrong."""
    source = random.Random(seed)
    calls = [("begin", source.randint(1, 3), source.randint(-500, 500))]
    calls += [("chamber", source.randint(-300, 100), source.randint(1, 200), source.randint(20, 100)) for each in range(3)]
    calls += [
        ("kind", source.randint(-200, 200), source.randint(0, 3000), source.choice((source.randint(1, 60), 10000)))
        for each in range(2)
    ]
    return tuple(calls + [any_call(source) for each in range(source.randint(20, 180))])


@functools.lru_cache(maxsize=None)
def told_line(seed):
    """The same calls, each with its answer."""
    return tuple(zip(any_line(seed), run(any_line(seed))))
