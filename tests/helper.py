"""Calls by their names, and the answers call by call."""

from coldstore.store import answers

NAMES = (
    "begin", "chamber", "kind", "receive", "move", "ship", "order", "throw",
    "open", "close", "aim", "thaw", "mains", "outside", "hours", "look",
    "air", "lot", "spoiled", "line", "pick", "soon", "reach", "ahead",
    "fits", "warm", "cool", "inside", "worst", "sums", "state",
)
ARGUMENTS = {
    "begin": 2, "chamber": 3, "kind": 3, "receive": 4, "move": 2, "ship": 2, "order": 2, "throw": 1,
    "open": 1, "close": 1, "aim": 2, "thaw": 2, "mains": 1, "outside": 1, "hours": 1, "look": 1,
    "air": 1, "lot": 1, "spoiled": 0, "line": 1, "pick": 2, "soon": 1, "reach": 1, "ahead": 1,
    "fits": 2, "warm": 0, "cool": 0, "inside": 1, "worst": 0, "sums": 0, "state": 0,
}
UNSIGNED_MOST = 4294967295
SIGNED_LEAST = -2147483648
SIGNED_MOST = 2147483647
REFUSALS = (-2, -6, -11, -17, -22, -28, -33, -74)


def flat(calls):
    numbers = []
    for name, *given in calls:
        assert len(given) == ARGUMENTS[name], name
        numbers.append(NAMES.index(name))
        numbers.extend(given)
    return numbers


def split(told):
    """The answers one by one; fails where the counts don't fit what stands behind them."""
    each = []
    place = 0
    while place < len(told):
        behind = place + 1 + told[place]
        assert behind <= len(told), told
        each.append(told[place + 1:behind])
        place = behind
    return each


def run(calls):
    each = split(answers(flat(calls)))
    assert len(each) == len(calls), each
    return each


def last(*calls):
    return run(calls)[-1]


def is_refusal(answer):
    return answer[0] < 0
