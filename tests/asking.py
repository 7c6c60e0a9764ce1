"""What the tests share: calls as rows of numbers, and a line's answers call by call."""

from meanring.roads import answers

MOST = 1000000000000000000


def add(u, v, cost):
    return [0, u, v, cost]


def drop(e):
    return [1, e]


def cost(e, new):
    return [2, e, new]


def road(e):
    return [3, e]


def count():
    return [4]


def least():
    return [5]


def below(num, den):
    return [6, num, den]


def check(ring, num, den):
    return [7, num, den, len(ring), *ring]


def check_price(price, num, den):
    return [8, num, den, len(price), *price]


def line_of(calls):
    return [number for call in calls for number in call]


def split(told):
    """The answers of a whole line, one list a call."""
    rows = []
    at = 0
    while at < len(told):
        behind = at + 1 + told[at]
        if told[at] < 1 or behind > len(told):
            raise AssertionError(f"a count of {told[at]} at place {at} of {told}")
        rows.append(told[at + 1:behind])
        at = behind
    return rows


def ask(*calls):
    """One line's answers, one list a call."""
    if not 1 <= len(calls) <= 60:
        raise AssertionError(f"a line has 1 to 60 calls, not {len(calls)}")
    line = line_of(calls)
    if len(line) > 800:
        raise AssertionError(f"a line has at most 800 numbers, not {len(line)}")
    rows = split(answers(line))
    if len(rows) != len(calls):
        raise AssertionError(f"{len(rows)} answers to {len(calls)} calls")
    return rows


def last(*calls):
    """The answer to a line's last call."""
    return ask(*calls)[-1]


# Together these tell all that can be seen of the roads.
VIEW = tuple(road(e) for e in range(10)) + (count(),)


def view_after(*calls):
    return ask(*calls, *VIEW)[len(calls):]


def adds(*roads):
    """An add for each road (u, v, cost), so that they're numbered 0, 1, 2 and on."""
    return [add(*new) for new in roads]


def shift(row, by):
    return [*row[by:], *row[:by]]


def full():
    """Ten adds, each road unlike the others."""
    return [add(e % 6, (e * 5 + 1) % 6, 100 * e - 450) for e in range(10)]


def check_refused(case, before, call, refusal):
    """The call is refused so, and nothing that can be seen, or is done next, is other than without it."""
    after = [add(5, 4, 77), *VIEW]
    rows = ask(*before, *VIEW, call, *VIEW)
    at = len(before)
    case.assertEqual(rows[at + len(VIEW)], [refusal], (before, call))
    case.assertEqual(rows[at:at + len(VIEW)], rows[at + len(VIEW) + 1:], (before, call))
    case.assertEqual(ask(*before, call, *after)[at + 1:], ask(*before, *after)[at:], (before, call))


def check_changes_nothing(case, before, call, answer):
    """The call is answered so, and count, every road and the least round are told the same before and after."""
    seen = (*VIEW, least())
    rows = ask(*before, *seen, call, *seen)
    at = len(before)
    case.assertEqual(rows[at + len(seen)], answer, (before, call))
    case.assertEqual(rows[at:at + len(seen)], rows[at + len(seen) + 1:], (before, call))


# Means that can't be asked for: num or den one beyond what's let be, far beyond it, or both.
WRONG_MEANS = ((1000000001, 1), (-1000000001, 1), (1000000001, 1000), (-1000000001, 1000), (MOST, 1), (-MOST, 1),
               (0, 0), (5, 0), (0, -1), (3, -2), (0, 1001), (0, -1000), (0, MOST), (0, -MOST), (MOST, MOST),
               (-MOST, -MOST), (1000000000, 1001), (-1000000000, 0), (1000000001, 0), (-1000000001, 1001))

# Means at the edges, which can be asked for.
EDGE_MEANS = ((1000000000, 1), (-1000000000, 1), (1000000000, 1000), (-1000000000, 1000), (0, 1), (0, 1000))
