"""Calls written as the interface asks for them, and answers taken apart again."""

from cleaningtanks.tanks import answers

FAR = 4294967295


def begin(tanks, need):
    return [0, tanks, need]


def lot(h, n, crates=1):
    return [1, h, n, crates]


def drop(l):
    return [2, l]


def longer(l, n):
    return [3, l, n]


def tank():
    return [4]


def hours(n):
    return [5, n]


def fewest():
    return [6]


def peak(*lots):
    return [7, len(lots), *lots]


def at(h):
    return [8, h]


def plan():
    return [9]


def tankof(l):
    return [10, l]


def most(k):
    return [11, k]


def taken_apart(given):
    apart = []
    place = 0
    while place < len(given):
        count = given[place]
        apart.append(given[place + 1:place + 1 + count])
        place += 1 + count
    return apart


def ask(*calls):
    """The answer of each call, as a list of lists."""
    given = answers([number for call in calls for number in call])
    assert isinstance(given, list)
    assert all(type(number) is int for number in given)
    apart = taken_apart(given)
    assert len(apart) == len(calls)
    assert all(apart)
    assert all(answer[0] >= 0 or len(answer) == 1 for answer in apart)
    assert all(number >= 0 for answer in apart for number in answer[1:])
    return apart


def last(*calls):
    return ask(*calls)[-1]


def go_to(hour):
    """Calls after which it's that hour, from hour 0 on."""
    return [hours(500)] * (hour // 500) + ([hours(hour % 500)] if hour % 500 else [])


def probe(need):
    """Calls whose answers tell all that an object keeps: first looks, then acts."""
    calls = [plan(), fewest()] + [most(k) for k in range(7)] + [at(h) for h in range(0, 30)]
    calls += [hours(1), lot(10000, need - 1 or 501), lot(10000, need)]
    calls += [longer(l, 1) for l in range(15)] + [tank()] * 6
    calls += [drop(l) for l in range(70)] + [lot(10000, need)]
    return calls


def changes_nothing(setup, need, *calls):
    """Whether the object is, behind these calls, as it was behind the setup."""
    with_calls = ask(*setup, *calls, *probe(need))
    return with_calls[len(setup) + len(calls):] == ask(*setup, *probe(need))[len(setup):]
