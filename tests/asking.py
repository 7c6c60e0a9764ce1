"""What the tests share: calls as rows of numbers, and a line's answers call by call."""

from meanring.roads import answers

MOST = 1000000000000000000


def add(u, v, cost):
    return [0, u, v, cost]


def drop(e):
    return [1, e]


def cost(e, new):
    return [2, e, new]


def road(e):
    return [3, e]


def count():
    return [4]


def line_of(calls):
    return [number for call in calls for number in call]


def split(told):
    """The answers of a whole line, one list a call."""
    rows = []
    at = 0
    while at < len(told):
        behind = at + 1 + told[at]
        if told[at] < 1 or behind > len(told):
            raise AssertionError(f"a count of {told[at]} at place {at} of {told}")
        rows.append(told[at + 1:behind])
        at = behind
    return rows


def ask(*calls):
    """One line's answers, one list a call."""
    if not 1 <= len(calls) <= 60:
        raise AssertionError(f"a line has 1 to 60 calls, not {len(calls)}")
    rows = split(answers(line_of(calls)))
    if len(rows) != len(calls):
        raise AssertionError(f"{len(rows)} answers to {len(calls)} calls")
    return rows


def last(*calls):
    """The answer to a line's last call."""
    return ask(*calls)[-1]


# Together these tell all that can be seen of the roads.
VIEW = tuple(road(e) for e in range(10)) + (count(),)


def view_after(*calls):
    return ask(*calls, *VIEW)[len(calls):]


def full():
    """Ten adds, each road unlike the others."""
    return [add(e % 6, (e * 5 + 1) % 6, 100 * e - 450) for e in range(10)]


def check_refused(case, before, call, refusal):
    """The call is refused so, and nothing that can be seen, or is done next, is other than without it."""
    after = [add(5, 4, 77), *VIEW]
    rows = ask(*before, *VIEW, call, *VIEW)
    at = len(before)
    case.assertEqual(rows[at + len(VIEW)], [refusal], (before, call))
    case.assertEqual(rows[at:at + len(VIEW)], rows[at + len(VIEW) + 1:], (before, call))
    case.assertEqual(ask(*before, call, *after)[at + 1:], ask(*before, *after)[at:], (before, call))
